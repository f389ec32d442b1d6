import unittest

from tests.lines import KINDS, ask, begin, drop, size, term_all, term_many


class SizeTest(unittest.TestCase):
    def test_coins_then_seeds_then_terms(self):
        for m, k, f in KINDS:
            with self.subTest(m=m, k=k, f=f):
                self.assertEqual(ask(begin(m, k, f), size())[1], [2 ** m, 2 ** (m * k), 0])

    def test_counts_the_terms(self):
        told = ask(begin(3, 2), *[term_all(1, [0]), size()] * 12, term_all(1, [0]), size(), drop(4), size(),
                   term_many(1, 0, [0]), size())
        self.assertEqual([answer[2] for answer in told[2:25:2]], list(range(1, 13)))
        self.assertEqual(told[25:], [[-28], [8, 64, 12], [11], [8, 64, 11], [11], [8, 64, 12]])

    def test_after_begin_again(self):
        told = ask(begin(3, 2), term_all(1, [0]), size(), begin(9, 2), size(), begin(4, 2, 1), size(), begin(1, 1),
                   size())
        self.assertEqual(told, [[64], [0], [8, 64, 1], [-22], [8, 64, 1], [256], [16, 256, 0], [2], [2, 2, 0]])
