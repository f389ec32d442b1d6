import random
import unittest
from fractions import Fraction
from math import comb, gcd

from tests import plain
from tests.lines import (KINDS, PLAIN, ask_after, begin, best, calls_of, chances, drawn_term, drop, means, term_all,
                         term_many, want)


def asked(start, *terms):
    return ask_after(start, *terms, means())[-1]


class MeansTest(unittest.TestCase):
    def test_no_terms(self):
        for m, k, f in KINDS:
            self.assertEqual(asked(begin(m, k, f)), [1, 0, 1, 0, 1])
        self.assertEqual(asked(begin(2, 2), term_all(5, [0]), drop(0)), [1, 0, 1, 0, 1])

    def test_of_one_term(self):
        self.assertEqual(asked(begin(2, 2), term_all(7, [0])), [1, 7, 2, 7, 2])
        self.assertEqual(asked(begin(2, 2), term_all(6, [0])), [1, 3, 1, 3, 1])
        self.assertEqual(asked(begin(2, 2), term_many(4, 1, [0, 3])), [1, 3, 1, 3, 1])

    def test_below_0(self):
        self.assertEqual(asked(begin(2, 2), term_all(-7, [0])), [1, -7, 2, -7, 2])
        self.assertEqual(asked(begin(2, 2), term_all(-6, [0, 2])), [1, -3, 2, -3, 2])
        self.assertEqual(asked(begin(2, 2), term_all(-4, [0])), [1, -2, 1, -2, 1])
        self.assertEqual(asked(begin(1, 1), term_all(-3, [1, 3]), term_all(1, [0])), [0, -1, 4, -1, 1])

    def test_one_below_0_and_one_above(self):
        # True coins: 4 by 16 less 3 by 8, seeds': 4 by 8 less 3 by 8.
        self.assertEqual(asked(begin(2, 2), term_all(4, [0, 2, 4, 6]), term_all(-3, [0, 2, 4])), [0, -1, 8, 1, 8])

    def test_terms_that_weigh_each_other_out(self):
        self.assertEqual(asked(begin(2, 2), term_all(5, [0]), term_all(-5, [1])), [1, 0, 1, 0, 1])
        self.assertEqual(asked(begin(2, 2), term_all(0, [0, 2, 4, 6])), [1, 0, 1, 0, 1])
        # True coins: 2 by 16 less 1 by 8; seeds': 2 by 8 less 1 by 8.
        self.assertEqual(asked(begin(2, 2), term_all(2, [0, 2, 4, 6]), term_all(-1, [0, 2, 4])), [0, 0, 1, 1, 8])

    def test_by_hand(self):
        # The 16 seeds' coins lie in each of the 8 ways with an even number of ones, twice: two come to 0, two to 2,
        # twelve to 5. Of true coins it's 5 times 11 by 16 less 3 times 5 by 16.
        self.assertEqual(asked(begin(2, 2), term_many(5, 2, [0, 1, 2, 3]), term_many(-3, 3, [0, 1, 2, 3])),
                         [0, 5, 2, 4, 1])

    def test_faint_by_hand(self):
        # The coins of the 4 seeds are 0 0, 0 0, 1 0, 1 1.
        self.assertEqual(asked(begin(1, 2, 1), term_all(1, [3])), [0, 1, 2, 1, 4])
        self.assertEqual(asked(begin(1, 2, 1), term_all(3, [1])), [1, 3, 2, 3, 2])
        self.assertEqual(asked(begin(1, 2, 1), term_all(3, [1]), term_many(-2, 1, [0, 1])), [0, 0, 1, 1, 2])

    def test_k_1_and_a_term_that_looks_at_two(self):
        for m in range(1, 7):
            self.assertEqual(asked(begin(m, 1), term_all(1, [0, 2])), [0, 1, 4, 1, 2])
            self.assertEqual(asked(begin(m, 1), term_many(1, 1, [0, 1])), [0, 3, 4, 1, 2])

    def test_both_of_one_coin_adds_nothing(self):
        self.assertEqual(asked(begin(2, 2), term_all(100, [0, 1]), term_all(1, [4])), [1, 1, 2, 1, 2])

    def test_the_same_number_told_twice(self):
        self.assertEqual(asked(begin(2, 2), term_all(3, [5, 5])), [1, 3, 2, 3, 2])

    def test_t_0_and_t_above_how_many_coins(self):
        self.assertEqual(asked(begin(2, 2), term_many(9, 0, [0, 1, 2, 3])), [1, 9, 1, 9, 1])
        self.assertEqual(asked(begin(2, 2), term_many(9, 5, [0, 1, 2, 3]), term_many(9, 20, [0])), [1, 0, 1, 0, 1])

    def test_the_greatest_and_the_least(self):
        self.assertEqual(asked(begin(2, 2), *[term_many(100, 0, [0])] * 12), [1, 1200, 1, 1200, 1])
        self.assertEqual(asked(begin(2, 2), *[term_many(-100, 0, [0])] * 12), [1, -1200, 1, -1200, 1])

    def test_of_all_coins(self):
        for m, k, f in KINDS:
            coins, rows = 2 ** m, plain.rows(m, k, f)
            t = min(coins, 20)
            true = 7 * Fraction(sum(comb(coins, ones) for ones in range(t, coins + 1)), 2 ** coins) - Fraction(3, 2)
            made = plain.mean([("many", 7, t, range(coins)), ("all", -3, [0])], rows)
            with self.subTest(m=m, k=k, f=f):
                told = asked(begin(m, k, f), term_many(7, t, range(coins)), term_all(-3, [0]))
                self.assertEqual(told, [int(true == made)] + plain.told(true) + plain.told(made))

    def test_true_mean_by_every_way(self):
        draw = random.Random(7)
        for number in range(60):
            m = 1 + number % 3
            terms = [drawn_term(draw, 2 ** m, 2 ** m) for each in range(draw.randrange(1, 13))]
            true = plain.mean(terms, plain.every_way(2 ** m))
            made = plain.mean(terms, plain.rows(m, 2, 0))
            self.assertEqual(asked(begin(m, 2), *calls_of(terms)),
                             [int(true == made)] + plain.told(true) + plain.told(made), terms)

    def test_is_what_the_chances_come_to(self):
        terms = [term_all(5, [0, 3, 4]), term_many(-8, 2, [0, 1, 2, 5]), term_all(3, [9, 9, 2])]
        for start in (begin(3, 1), begin(3, 2), begin(3, 2, 1)):
            told = ask_after(start, *terms, chances(0), chances(1), chances(2), means())
            for place in (1, 3):
                parts = [w * Fraction(*answer[place:place + 2]) for w, answer in zip((5, -8, 3), told[3:6])]
                self.assertEqual(Fraction(*told[6][place:place + 2]), sum(parts))


class HoldsTest(unittest.TestCase):
    def test_k_by_k_of_terms_that_look_at_k_or_fewer(self):
        draw = random.Random(11)
        for m, k in PLAIN:
            for number in range(12):
                terms = [drawn_term(draw, 2 ** m, k) for each in range(draw.randrange(0, 13))]
                told = ask_after(begin(m, k), *calls_of(terms), means(), best(), want(1), best())
                same, true_upper, true_lower, upper, lower = told[-4]
                with self.subTest(m=m, k=k, terms=terms):
                    self.assertEqual((same, true_upper, true_lower), (1, upper, lower))
                    self.assertLessEqual(told[-3][1], Fraction(true_upper, true_lower))
                    self.assertGreaterEqual(told[-1][1], Fraction(true_upper, true_lower))

    def test_best_is_no_worse_than_the_mean_of_seeds(self):
        draw = random.Random(13)
        for m, k, f in KINDS:
            terms = [drawn_term(draw, 2 ** m, 2 ** m) for each in range(6)]
            told = ask_after(begin(m, k, f), *calls_of(terms), means(), best(), want(1), best())
            mean = Fraction(told[6][3], told[6][4])
            with self.subTest(m=m, k=k, f=f, terms=terms):
                self.assertLessEqual(told[7][1], mean)
                self.assertGreaterEqual(told[9][1], mean)


class FractionTest(unittest.TestCase):
    def check(self, upper, lower):
        self.assertGreaterEqual(lower, 1)
        self.assertEqual(gcd(upper, lower), 1)
        if upper == 0:
            self.assertEqual(lower, 1)

    def test_nothing_in_common_and_the_lower_1_or_more(self):
        draw = random.Random(17)
        below, above, none = 0, 0, 0
        for m, k, f in KINDS * 3:
            terms = [drawn_term(draw, 2 ** m, 6) for each in range(draw.randrange(0, 5))]
            told = ask_after(begin(m, k, f), *calls_of(terms), means(), *[chances(j) for j in range(len(terms))])
            for answer in told[len(terms):]:
                self.assertEqual(len(answer), 5)
                for upper, lower in (answer[1:3], answer[3:]):
                    self.check(upper, lower)
                    below, above, none = below + (upper < 0), above + (upper > 0), none + (upper == 0)
        self.assertTrue(below > 10 and above > 10 and none > 10)

    def test_brought_down(self):
        for w in range(-100, 101):
            expected = plain.told(Fraction(w, 8))
            self.assertEqual(asked(begin(3, 3), term_all(w, [0, 3, 5])), [1] + expected + expected)
