import unittest

from tests import plain
from tests.lines import HIGHEST, KINDS, LOWEST, ask_after, ask_many, begin, coin, row


class CoinTest(unittest.TestCase):
    def test_every_coin_of_every_seed(self):
        for m, k, f in KINDS:
            asked = [coin(s, i) for s in range(2 ** (m * k)) for i in range(2 ** m)]
            made = [[side] for seed in plain.rows(m, k, f) for side in seed]
            # Of the greatest kinds every seventh is enough, as row below looks at all.
            step = 7 if len(asked) > 4096 else 1
            with self.subTest(m=m, k=k, f=f):
                self.assertEqual(ask_many(begin(m, k, f), asked[::step]), made[::step])

    def test_no_such_seed_or_coin(self):
        for m, k, f in KINDS:
            seeds, coins = 2 ** (m * k), 2 ** m
            wrong = [(-1, 0), (seeds, 0), (0, -1), (0, coins), (-1, -1), (seeds, coins),
                     (LOWEST, 0), (HIGHEST, 0), (0, LOWEST), (0, HIGHEST)]
            with self.subTest(m=m, k=k, f=f):
                told = ask_after(begin(m, k, f), *[coin(s, i) for s, i in wrong])
                self.assertEqual(told, [[-2]] * len(wrong))
                last = ask_after(begin(m, k, f), coin(seeds - 1, coins - 1))
                self.assertEqual(last, [[plain.row(m, k, f, seeds - 1)[-1]]])


class RowTest(unittest.TestCase):
    def test_k_by_k_by_hand(self):
        # Seed 6 is 2 and 1: 2, 2 + 1, 2 + 2, 2 + 3. Seed 8 is 0 and 2: 0, 2, 3, 1.
        self.assertEqual(ask_after(begin(2, 2), row(0), row(6), row(8)),
                         [[4, 0, 0, 0, 0], [4, 0, 1, 0, 1], [4, 0, 0, 1, 1]])

    def test_third_number_stands_by_the_square(self):
        # Seed 64 is 0, 0 and 1: the squares of 0 to 7 are 0, 1, 4, 5, 6, 7, 2, 3.
        self.assertEqual(ask_after(begin(3, 3), row(64)), [[8, 0, 1, 0, 1, 0, 1, 0, 1]])
        # Seed 128 is 0, 0 and 2: twice these are 0, 2, 3, 1, 7, 5, 4, 6.
        self.assertEqual(ask_after(begin(3, 3), row(128)), [[8, 0, 0, 1, 1, 1, 1, 0, 0]])

    def test_faint_by_hand(self):
        # The powers of 2 are 1, 2, 3, 1; those of 0 are 1, 0, 0, 0.
        self.assertEqual(ask_after(begin(2, 2, 1), row(6), row(14), row(4), row(8), row(3)),
                         [[4, 1, 0, 1, 1], [4, 1, 1, 0, 1], [4, 1, 0, 0, 0], [4, 0, 0, 0, 0], [4, 0, 0, 0, 0]])

    def test_k_1_has_all_coins_alike(self):
        for m in range(1, 7):
            told = ask_after(begin(m, 1), row(0), row(1), row(2 ** m - 1))
            self.assertEqual(told, [[2 ** m] + [0] * 2 ** m, [2 ** m] + [1] * 2 ** m, [2 ** m] + [1] * 2 ** m])

    def test_every_row(self):
        for m, k, f in KINDS:
            with self.subTest(m=m, k=k, f=f):
                told = ask_many(begin(m, k, f), [row(s) for s in range(2 ** (m * k))])
                self.assertEqual(told, [[2 ** m] + made for made in plain.rows(m, k, f)])

    def test_no_such_seed(self):
        for m, k, f in KINDS:
            seeds = 2 ** (m * k)
            with self.subTest(m=m, k=k, f=f):
                told = ask_after(begin(m, k, f), row(-1), row(seeds), row(LOWEST), row(HIGHEST), row(seeds - 1))
                self.assertEqual(told[:4], [[-2]] * 4)
                self.assertEqual(len(told[4]), 2 ** m + 1)
