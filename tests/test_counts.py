import itertools
import unittest

from tests import plain
from tests.lines import FAINT, HIGHEST, LOWEST, PLAIN, ask_after, ask_many, begin, count, odds


def subsets(coins, most):
    return [chosen for size in range(most + 1) for chosen in itertools.combinations(range(coins), size)]


class CountTest(unittest.TestCase):
    def test_by_hand(self):
        told = ask_after(begin(2, 2), count([0, 1], [0, 1]), count([0, 1, 2, 3], [0, 1, 0, 1]),
                         count([0, 1, 2, 3], [0, 0, 0, 1]), count([3], [1]))
        self.assertEqual(told, [[4, 16], [2, 16], [0, 16], [8, 16]])

    def test_no_coins(self):
        for m, k in PLAIN:
            self.assertEqual(ask_after(begin(m, k), count([], [])), [[2 ** (m * k), 2 ** (m * k)]])
        for m in FAINT:
            self.assertEqual(ask_after(begin(m, 2, 1), count([], [])), [[4 ** m, 4 ** m]])

    def test_k_coins_or_fewer_lie_each_way_of_as_many_seeds(self):
        for m, k in PLAIN:
            asked, expected = [], []
            seeds = 2 ** (m * k)
            for chosen in subsets(2 ** m, min(k, 2 ** m)):
                for lie in itertools.product((0, 1), repeat=len(chosen)):
                    asked.append(count(chosen, lie))
                    expected.append([seeds // 2 ** len(chosen), seeds])
            with self.subTest(m=m, k=k):
                self.assertEqual(ask_many(begin(m, k), asked), expected)

    def test_more_coins_than_k(self):
        for m, k, f in [(2, 1, 0), (2, 2, 0), (3, 2, 0), (3, 3, 0), (1, 1, 0), (2, 2, 1), (3, 2, 1)]:
            rows = plain.rows(m, k, f)
            asked, expected = [], []
            for chosen in subsets(2 ** m, min(2 ** m, k + 2)):
                for lie in itertools.product((0, 1), repeat=len(chosen)):
                    asked.append(count(chosen, lie))
                    so = [row for row in rows if all(row[i] == side for i, side in zip(chosen, lie))]
                    expected.append([len(so), len(rows)])
            with self.subTest(m=m, k=k, f=f):
                self.assertEqual(ask_many(begin(m, k, f), asked), expected)

    def test_all_coins(self):
        for m, k, f in [(6, 1, 0), (5, 2, 0), (4, 2, 0), (4, 2, 1), (1, 10, 0)]:
            rows = plain.rows(m, k, f)
            every = list(range(2 ** m))
            for lie in (rows[0], rows[1], rows[-1], rows[len(rows) // 2 + 1], [0, 1] * (2 ** m // 2)):
                with self.subTest(m=m, k=k, f=f, lie=lie):
                    told = ask_after(begin(m, k, f), count(every, lie))
                    self.assertEqual(told, [[rows.count(lie), len(rows)]])

    def test_wrong(self):
        wrong = [([-1], [0]), ([8], [0]), ([0, 8], [0, 0]), ([-1, 0], [0, 0]), ([1, 0], [0, 0]), ([1, 1], [0, 0]),
                 ([0, 2, 1], [0, 0, 0]), ([0], []), ([], [0]), ([0, 1], [0]), ([0], [0, 1]), ([0], [2]), ([0], [-1]),
                 ([0, 1], [0, 2]), ([0, 1], [-1, 0]), ([LOWEST], [0]), ([HIGHEST], [0]), ([0], [LOWEST]),
                 ([0], [HIGHEST]), (list(range(9)), [0] * 9), (list(range(70)), [0] * 70), ([], [0] * 70),
                 ([3, 1], [2])]
        for k, f in [(1, 0), (2, 0), (3, 0), (2, 1)]:
            told = ask_after(begin(3, k, f), *[count(coins, lie) for coins, lie in wrong])
            for case, answer in zip(wrong, told):
                with self.subTest(k=k, f=f, case=case):
                    self.assertEqual(answer, [-22])

    def test_edges_of_the_coins(self):
        for m in range(1, 7):
            top = 2 ** m
            told = ask_after(begin(m, 1), count([top - 1], [1]), count([top], [1]), count([0], [1]), count([-1], [1]))
            self.assertEqual(told, [[top // 2, top], [-22], [top // 2, top], [-22]])


class OddsTest(unittest.TestCase):
    def test_by_hand(self):
        told = ask_after(begin(2, 2), odds([0]), odds([0, 1]), odds([0, 1, 2, 3]), odds([1, 2, 3]))
        self.assertEqual(told, [[8, 16], [8, 16], [0, 16], [8, 16]])

    def test_no_coins_are_never_odd(self):
        for m, k in PLAIN:
            self.assertEqual(ask_after(begin(m, k), odds([])), [[0, 2 ** (m * k)]])
        for m in FAINT:
            self.assertEqual(ask_after(begin(m, 2, 1), odds([])), [[0, 4 ** m]])

    def test_every_choice_of_coins(self):
        for m, k, f in [(1, 1, 0), (1, 10, 0), (2, 1, 0), (2, 5, 0), (3, 1, 0), (3, 3, 0), (1, 2, 1), (2, 2, 1),
                        (3, 2, 1)]:
            rows = plain.rows(m, k, f)
            choices = subsets(2 ** m, 2 ** m)
            expected = [[sum(sum(row[i] for i in chosen) % 2 for row in rows), len(rows)] for chosen in choices]
            with self.subTest(m=m, k=k, f=f):
                self.assertEqual(ask_many(begin(m, k, f), [odds(chosen) for chosen in choices]), expected)

    def test_all_coins(self):
        for m, k, f in [(6, 1, 0), (5, 2, 0), (4, 2, 0), (4, 2, 1)]:
            rows = plain.rows(m, k, f)
            told = ask_after(begin(m, k, f), odds(range(2 ** m)))
            self.assertEqual(told, [[sum(sum(row) % 2 for row in rows), len(rows)]])

    def test_faint_coin_0_alone_is_even(self):
        for m in FAINT:
            self.assertEqual(ask_after(begin(m, 2, 1), odds([0])), [[4 ** m // 2, 4 ** m]])

    def test_faint_odd_and_even_differ_little(self):
        for m in FAINT:
            # Of 16 coins every 61st choice of them, and all of three coins or fewer.
            bits = list(range(1, 2 ** 2 ** m, 61 if m == 4 else 1))
            choices = [[i for i in range(2 ** m) if chosen >> i & 1] for chosen in bits]
            choices += [chosen for chosen in subsets(2 ** m, min(3, 2 ** m)) if chosen]
            told = ask_many(begin(m, 2, 1), [odds(chosen) for chosen in choices])
            for chosen, (odd, seeds) in zip(choices, told):
                self.assertEqual(seeds, 4 ** m)
                self.assertLessEqual(abs(seeds - 2 * odd), chosen[-1] * 2 ** m, (m, chosen))

    def test_wrong(self):
        wrong = [[-1], [8], [0, 8], [-1, 0], [1, 0], [1, 1], [0, 2, 1], [LOWEST], [HIGHEST], list(range(9)),
                 list(range(70)), [0] * 70]
        for k, f in [(1, 0), (2, 0), (3, 0), (2, 1)]:
            told = ask_after(begin(3, k, f), *[odds(coins) for coins in wrong])
            for case, answer in zip(wrong, told):
                with self.subTest(k=k, f=f, case=case):
                    self.assertEqual(answer, [-22])

    def test_edges_of_the_coins(self):
        for m in range(1, 7):
            top = 2 ** m
            told = ask_after(begin(m, 1), odds([top - 1]), odds([top]), odds([0]), odds([-1]))
            self.assertEqual(told, [[top // 2, top], [-22], [top // 2, top], [-22]])
