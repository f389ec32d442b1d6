"""Worth and best: what each seed's coins come to, and the first seed of the best."""

import random
import unittest

from tests import plain
from tests.lines import (HIGHEST, KINDS, LOWEST, ask_after, begin, best, calls_of, drawn_term, drop, term_all,
                         term_many, want, worth)


class WorthTest(unittest.TestCase):
    def test_no_terms(self):
        for m, k, f in KINDS:
            told = ask_after(begin(m, k, f), worth(0), worth(2 ** (m * k) - 1))
            self.assertEqual(told, [[0, 0], [0, 0]])

    def test_by_hand(self):
        # The coins of seeds 0, 1, 4, 6, 8: 0 0 0 0, 1 1 1 1, 0 1 0 1, 0 1 0 1, 0 0 1 1.
        terms = [term_all(1, [0]), term_all(10, [3, 7]), term_many(100, 3, [0, 1, 2, 3]), term_many(-40, 1, [2, 3])]
        told = ask_after(begin(2, 2), *terms, *[worth(s) for s in (0, 1, 4, 6, 8)])
        self.assertEqual(told[4:], [[0, 1], [0, 70], [0, -29], [0, -29], [0, -39]])

    def test_below_0(self):
        told = ask_after(begin(1, 1), *[term_many(-100, 1, [0])] * 12, worth(0), worth(1))
        self.assertEqual(told[12:], [[0, 0], [0, -1200]])

    def test_weights_of_both_sorts(self):
        for w in (-100, -1, 0, 1, 100):
            told = ask_after(begin(1, 1), term_all(w, [1]), worth(1), worth(0), drop(0), term_many(w, 1, [1]), worth(1),
                             worth(0))
            self.assertEqual(told, [[0], [0, w], [0, 0], [0], [0], [0, w], [0, 0]])

    def test_both_of_one_coin(self):
        told = ask_after(begin(1, 1), term_all(5, [0, 1]), worth(0), worth(1))
        self.assertEqual(told[1:], [[0, 0], [0, 0]])

    def test_the_same_number_told_twice(self):
        told = ask_after(begin(1, 1), term_all(5, [1, 3, 1]), worth(0), worth(1))
        self.assertEqual(told[1:], [[0, 0], [0, 5]])

    def test_t_of_some_coins(self):
        # Seed 8's coins are 0, 0, 1, 1.
        for t, so in [(0, 1), (1, 1), (2, 1), (3, 0), (4, 0), (5, 0), (20, 0)]:
            self.assertEqual(ask_after(begin(2, 2), term_many(7, t, [0, 1, 2, 3]), worth(8))[1], [0, 7 * so])
        for coins, so in [([0], 0), ([0, 1], 0), ([2], 1), ([1, 2], 1), ([0, 3], 1)]:
            self.assertEqual(ask_after(begin(2, 2), term_many(7, 1, coins), worth(8))[1], [0, 7 * so])

    def test_no_such_seed(self):
        for m, k, f in KINDS:
            seeds = 2 ** (m * k)
            told = ask_after(begin(m, k, f), term_many(3, 0, [0]), worth(-1), worth(seeds), worth(LOWEST),
                             worth(HIGHEST), worth(0), worth(seeds - 1))
            with self.subTest(m=m, k=k, f=f):
                self.assertEqual(told[1:], [[-2]] * 4 + [[0, 3]] * 2)

    def test_drawn_terms(self):
        draw = random.Random(19)
        for m, k, f in KINDS:
            rows = plain.rows(m, k, f)
            terms = [drawn_term(draw, 2 ** m, 2 ** m) for each in range(12)]
            seeds = [draw.randrange(len(rows)) for each in range(40)]
            told = ask_after(begin(m, k, f), *calls_of(terms), *[worth(s) for s in seeds])
            with self.subTest(m=m, k=k, f=f, terms=terms):
                self.assertEqual(told[12:], [[0, plain.worth(terms, rows[s])] for s in seeds])


class BestTest(unittest.TestCase):
    def test_no_terms(self):
        for m, k, f in KINDS:
            self.assertEqual(ask_after(begin(m, k, f), best(), want(1), best()), [[0, 0], [0], [0, 0]])

    def test_by_hand(self):
        # Two come to 0, two to 2, twelve to 5; the first of these is seed 4, as its coins are 0 1 0 1.
        terms = [term_many(5, 2, [0, 1, 2, 3]), term_many(-3, 3, [0, 1, 2, 3])]
        self.assertEqual(ask_after(begin(2, 2), *terms, best(), want(1), best())[2:], [[0, 0], [0], [4, 5]])

    def test_little_and_much(self):
        told = ask_after(begin(2, 2), term_all(6, [1]), best(), want(1), best(), want(0), best())
        self.assertEqual(told[1:], [[0, 0], [0], [1, 6], [1], [0, 0]])

    def test_below_0(self):
        told = ask_after(begin(2, 2), term_all(-6, [1]), term_many(-1, 0, [0]), best(), want(1), best())
        self.assertEqual(told[2:], [[1, -7], [0], [0, -1]])

    def test_of_like_seeds_the_first(self):
        # Coin 1 is 1 and coin 0 is 0 of seeds 4, 6, 12, 14, and the other way round of 5, 7, 13, 15.
        self.assertEqual(ask_after(begin(2, 2), term_all(-1, [0, 3]), best())[1], [4, -1])
        self.assertEqual(ask_after(begin(2, 2), term_all(1, [0, 3]), want(1), best())[2], [4, 1])
        self.assertEqual(ask_after(begin(2, 2), term_all(-1, [1, 2]), best())[1], [5, -1])
        self.assertEqual(ask_after(begin(2, 2), term_many(3, 0, [0]), best(), want(1), best())[1:],
                         [[0, 3], [0], [0, 3]])

    def test_the_last_seed(self):
        # With m 1 and k 1 there are seeds 0 and 1 alone.
        self.assertEqual(ask_after(begin(1, 1), term_all(-1, [1]), best()), [[0], [1, -1]])
        # Faint, seed 3 alone has both coins 1.
        self.assertEqual(ask_after(begin(1, 2, 1), term_all(-1, [1, 3]), best()), [[0], [3, -1]])

    def test_follows_the_terms(self):
        told = ask_after(begin(2, 2), term_all(-1, [1]), best(), term_all(-2, [0, 3]), best(), drop(1), best(), drop(0),
                         best())
        self.assertEqual(told, [[0], [1, -1], [1], [4, -2], [1], [1, -1], [0], [0, 0]])

    def test_drawn_terms(self):
        draw = random.Random(23)
        for m, k, f in KINDS * 2:
            rows = plain.rows(m, k, f)
            terms = [drawn_term(draw, 2 ** m, 2 ** m) for each in range(draw.randrange(1, 13))]
            told = ask_after(begin(m, k, f), *calls_of(terms), best(), want(1), best())
            with self.subTest(m=m, k=k, f=f, terms=terms):
                self.assertEqual(told[-3:], [plain.best(terms, rows, False), [0], plain.best(terms, rows, True)])

    def test_is_worth_what_it_says_and_none_is_better(self):
        terms = [term_all(5, [0, 3]), term_many(-8, 2, [0, 1, 2]), term_all(3, [5])]
        told = ask_after(begin(2, 2), *terms, *[worth(s) for s in range(16)], best(), want(1), best())
        worths = [answer[1] for answer in told[3:19]]
        self.assertEqual(told[19], [worths.index(min(worths)), min(worths)])
        self.assertEqual(told[21], [worths.index(max(worths)), max(worths)])
