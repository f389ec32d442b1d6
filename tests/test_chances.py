import itertools
import unittest
from fractions import Fraction
from math import comb

from tests import plain
from tests.lines import HIGHEST, KINDS, LOWEST, PLAIN, ask_after, begin, call_of, chances, drop, term_all, term_many


def asked(start, call):
    """What chances answers of this one term."""
    return ask_after(start, call, chances(0))[1]


def coins_up_to(top, most):
    return [list(coins) for size in range(1, most + 1) for coins in itertools.combinations(range(top), size)]


class OracleTest(unittest.TestCase):
    """What the tests below are measured by, against every way in which true coins may lie."""

    def test_true_chances(self):
        ways = plain.every_way(4)
        lies = [[told] for told in range(8)] + [list(lie) for lie in itertools.product(range(8), repeat=3)]
        terms = [("all", 1, lie) for lie in lies]
        terms += [("many", 1, t, coins) for t in (0, 1, 2, 3, 4, 5, 20) for coins in coins_up_to(4, 4)]
        for term in terms:
            self.assertEqual(plain.true_chance(term), plain.chance(term, ways), term)


class ChancesTest(unittest.TestCase):
    def test_all_by_hand(self):
        # The coins of the 16 seeds lie in each of the 8 ways with an even number of ones, twice.
        for lie, expected in [([0], [1, 1, 2, 1, 2]), ([1], [1, 1, 2, 1, 2]), ([0, 3], [2, 1, 4, 1, 4]),
                              ([0, 3, 5], [3, 1, 8, 1, 8]), ([0, 2, 4, 6], [4, 1, 16, 1, 8]),
                              ([0, 2, 4, 7], [4, 1, 16, 0, 1])]:
            with self.subTest(lie=lie):
                self.assertEqual(asked(begin(2, 2), term_all(9, lie)), expected)

    def test_many_by_hand(self):
        for t, expected in [(0, [4, 1, 1, 1, 1]), (1, [4, 15, 16, 7, 8]), (2, [4, 11, 16, 7, 8]), (3, [4, 5, 16, 1, 8]),
                            (4, [4, 1, 16, 1, 8]), (5, [4, 0, 1, 0, 1]), (20, [4, 0, 1, 0, 1])]:
            with self.subTest(t=t):
                self.assertEqual(asked(begin(2, 2), term_many(-9, t, [0, 1, 2, 3])), expected)

    def test_faint_by_hand(self):
        # The coins of the 4 seeds are 0 0, 0 0, 1 0, 1 1.
        for call, expected in [(term_all(1, [1]), [1, 1, 2, 1, 2]), (term_all(1, [3]), [1, 1, 2, 1, 4]),
                               (term_all(1, [0, 2]), [2, 1, 4, 1, 2]), (term_all(1, [0, 3]), [2, 1, 4, 0, 1]),
                               (term_many(1, 1, [0, 1]), [2, 3, 4, 1, 2]), (term_many(1, 2, [0, 1]), [2, 1, 4, 1, 4])]:
            with self.subTest(call=call):
                self.assertEqual(asked(begin(1, 2, 1), call), expected)

    def test_the_same_number_told_twice(self):
        for lie in ([3, 3], [3] * 20):
            self.assertEqual(asked(begin(2, 2), term_all(1, lie)), [1, 1, 2, 1, 2])
        self.assertEqual(asked(begin(2, 2), term_all(1, [6, 1, 6, 1, 1])), [2, 1, 4, 1, 4])

    def test_both_of_one_coin(self):
        for m, k, f in [(1, 1, 0), (2, 2, 0), (6, 1, 0), (4, 2, 1)]:
            for lie, looked in [([0, 1], 1), ([1, 0], 1), ([3, 0, 2], 2), ([0, 1, 2, 3], 2), ([1, 0, 1, 0], 1)]:
                with self.subTest(m=m, k=k, f=f, lie=lie):
                    self.assertEqual(asked(begin(m, k, f), term_all(1, lie)), [looked, 0, 1, 0, 1])

    def test_order_of_what_is_told_is_nothing(self):
        for lie in itertools.permutations([0, 3, 5]):
            self.assertEqual(asked(begin(2, 1), term_all(1, lie)), asked(begin(2, 1), term_all(1, [0, 3, 5])))

    def test_weight_is_nothing(self):
        for w in (-100, -1, 0, 1, 100):
            self.assertEqual(asked(begin(2, 2), term_many(w, 3, [0, 1, 2, 3])), [4, 5, 16, 1, 8])

    def test_of_each_term(self):
        told = ask_after(begin(2, 2), term_all(1, [0]), term_many(2, 1, [0, 1]), term_all(3, [0, 2, 5]), chances(0),
                         chances(1), chances(2), drop(0), chances(0), chances(1), chances(2))
        self.assertEqual(told[3:], [[1, 1, 2, 1, 2], [2, 3, 4, 3, 4], [3, 1, 8, 1, 8], [2], [2, 3, 4, 3, 4],
                                    [3, 1, 8, 1, 8], [-2]])

    def test_no_such_term(self):
        told = ask_after(begin(2, 2), chances(0), chances(-1), term_all(1, [0]), chances(0), chances(1), chances(-1),
                         chances(LOWEST), chances(HIGHEST))
        self.assertEqual(told, [[-2], [-2], [0], [1, 1, 2, 1, 2], [-2], [-2], [-2], [-2]])

    def test_first_and_last_of_12(self):
        twelve = [term_all(1, [0])] + [term_all(1, [0, 2])] * 10 + [term_all(1, [0, 2, 4])]
        told = ask_after(begin(2, 2), *twelve, chances(-1), chances(0), chances(11), chances(12))
        self.assertEqual(told[12:], [[-2], [1, 1, 2, 1, 2], [3, 1, 8, 1, 8], [-2]])

    def test_every_all_of_few_coins(self):
        for m, k, f in [(1, 1, 0), (1, 3, 0), (2, 1, 0), (2, 2, 0), (1, 2, 1), (2, 2, 1)]:
            rows = plain.rows(m, k, f)
            for lie in itertools.product(range(2 * 2 ** m), repeat=3):
                term = ("all", 1, lie)
                expected = plain.told(plain.true_chance(term)) + plain.told(plain.chance(term, rows))
                self.assertEqual(asked(begin(m, k, f), call_of(term)), [len(plain.coins_of(term))] + expected)

    def test_every_many_of_few_coins(self):
        for m, k, f in [(1, 1, 0), (1, 3, 0), (2, 1, 0), (2, 2, 0), (3, 2, 0), (1, 2, 1), (2, 2, 1), (3, 2, 1)]:
            rows = plain.rows(m, k, f)
            for coins in coins_up_to(2 ** m, 2 ** m):
                for t in (0, 1, len(coins) - 1, len(coins), len(coins) + 1):
                    term = ("many", 1, t, coins)
                    expected = plain.told(plain.true_chance(term)) + plain.told(plain.chance(term, rows))
                    self.assertEqual(asked(begin(m, k, f), call_of(term)), [len(coins)] + expected)

    def test_many_of_all_coins(self):
        for m, k, f in KINDS:
            coins, rows = 2 ** m, plain.rows(m, k, f)
            for t in (0, 1, min(coins // 2, 19), min(coins, 20)):
                true = Fraction(sum(comb(coins, ones) for ones in range(t, coins + 1)), 2 ** coins)
                made = Fraction(len([row for row in rows if sum(row) >= t]), len(rows))
                with self.subTest(m=m, k=k, f=f, t=t):
                    self.assertEqual(asked(begin(m, k, f), term_many(1, t, range(coins))),
                                     [coins] + plain.told(true) + plain.told(made))

    def test_all_of_all_coins(self):
        for m, k, f in [(1, 1, 0), (1, 10, 0), (2, 5, 0), (3, 3, 0), (4, 1, 0), (4, 2, 0), (4, 2, 1)]:
            coins, rows = 2 ** m, plain.rows(m, k, f)
            for row in (rows[0], rows[-1], rows[len(rows) // 2], [0, 1] * (coins // 2)):
                made = Fraction(rows.count(row), len(rows))
                lie = [2 * i + side for i, side in enumerate(row)]
                with self.subTest(m=m, k=k, f=f, row=row):
                    self.assertEqual(asked(begin(m, k, f), term_all(1, lie)), [coins, 1, 2 ** coins] + plain.told(made))

    def test_the_most_that_all_may_tell(self):
        told = asked(begin(5, 2), term_all(1, range(0, 40, 2)))
        self.assertEqual(told[:3], [20, 1, 2 ** 20])

    def test_t_above_how_many_coins_and_t_0(self):
        for t, coins, true in [(20, 19, [0, 1]), (20, 20, [1, 2 ** 20]), (19, 20, [21, 2 ** 20]),
                               (20, 21, [11, 2 ** 20]), (0, 1, [1, 1]), (0, 32, [1, 1]), (2, 1, [0, 1])]:
            with self.subTest(t=t, coins=coins):
                self.assertEqual(asked(begin(5, 2), term_many(1, t, range(coins)))[:3], [coins] + true)

    def test_k_coins_or_fewer_are_as_likely_as_of_true_ones(self):
        for m, k in PLAIN:
            top = 2 ** m
            chosen = [coins for coins in coins_up_to(top, min(k, top, 3))][::5] + [list(range(min(k, top)))]
            terms = [("many", 1, t, coins) for coins in chosen for t in range(1, len(coins) + 1)]
            terms += [("all", 1, [2 * i + (i * 5 % 3) % 2 for i in coins]) for coins in chosen]
            for term in terms[:60]:
                told = asked(begin(m, k), call_of(term))
                with self.subTest(m=m, k=k, term=term):
                    self.assertEqual(told[1:3], told[3:])

    def test_k_and_one_may_be_otherwise(self):
        for m in range(1, 7):
            self.assertEqual(asked(begin(m, 1), term_all(1, [1, 3])), [2, 1, 4, 1, 2])
        for m, k in PLAIN:
            if k < 2 ** m:
                rows = plain.rows(m, k, 0)
                for term in [("all", 1, [2 * i + 1 for i in range(k + 1)]), ("many", 1, k, list(range(k + 1)))]:
                    made = plain.told(plain.chance(term, rows))
                    with self.subTest(m=m, k=k, term=term):
                        self.assertEqual(asked(begin(m, k), call_of(term)),
                                         [k + 1] + plain.told(plain.true_chance(term)) + made)

    def test_looking_is_no_change(self):
        told = ask_after(begin(2, 2), term_all(1, [0]), *[chances(0)] * 5)
        self.assertEqual(told[1:], [[1, 1, 2, 1, 2]] * 5)
