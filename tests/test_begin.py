import unittest

from tests.lines import FAINT, HIGHEST, LOWEST, PLAIN, ask, begin, mul, row


class BeginTest(unittest.TestCase):
    def test_says_how_many_seeds_k_by_k(self):
        for m, k in PLAIN:
            with self.subTest(m=m, k=k):
                self.assertEqual(ask(begin(m, k, 0)), [[2 ** (m * k)]])

    def test_says_how_many_seeds_faint(self):
        for m in FAINT:
            with self.subTest(m=m):
                self.assertEqual(ask(begin(m, 2, 1)), [[4 ** m]])

    def test_takes_just_the_allowed_m_and_k(self):
        for m in range(-2, 13):
            for k in range(-2, 13):
                with self.subTest(m=m, k=k):
                    good = (m, k) in PLAIN
                    self.assertEqual(ask(begin(m, k, 0)), [[2 ** (m * k)] if good else [-22]])

    def test_takes_just_the_allowed_faint_m_and_k(self):
        for m in range(-2, 13):
            for k in range(-2, 13):
                with self.subTest(m=m, k=k):
                    good = k == 2 and m in FAINT
                    self.assertEqual(ask(begin(m, k, 1)), [[4 ** m] if good else [-22]])

    def test_edges_one_by_one(self):
        for wrong in [(0, 1, 0), (7, 1, 0), (1, 0, 0), (1, 11, 0), (6, 2, 0), (5, 3, 0), (4, 3, 0),
                      (3, 4, 0), (2, 6, 0), (2, 2, -1), (2, 2, 2), (5, 2, 1), (2, 1, 1), (2, 3, 1)]:
            with self.subTest(wrong=wrong):
                self.assertEqual(ask(begin(*wrong)), [[-22]])

    def test_two_that_are_below_0_are_refused(self):
        # Their product lies in the range that m times k may have.
        self.assertEqual(ask(begin(-2, -3, 0), begin(-1, -1, 0)), [[-22], [-22]])

    def test_the_greatest_and_least_numbers(self):
        for far in (LOWEST, HIGHEST):
            for wrong in [(far, 1, 0), (1, far, 0), (far, far, 0), (1, 1, far), (far, 2, 1), (2, far, 1)]:
                with self.subTest(wrong=wrong):
                    self.assertEqual(ask(begin(*wrong)), [[-22]])

    def test_m_1_and_k_1(self):
        self.assertEqual(ask(begin(1, 1), row(0), row(1)), [[2], [2, 0, 0], [2, 1, 1]])

    def test_again_makes_other_coins(self):
        told = ask(begin(2, 2, 0), row(6), begin(2, 2, 1), row(6), begin(3, 1, 0), row(7), mul(2, 4))
        self.assertEqual(told, [[16], [4, 0, 1, 0, 1], [16], [4, 1, 0, 1, 1],
                                [8], [8, 1, 1, 1, 1, 1, 1, 1, 1], [3]])

    def test_refused_again_leaves_the_coins(self):
        told = ask(begin(2, 2, 0), begin(5, 2, 1), row(6), begin(0, 1, 0), mul(2, 2), begin(3, 1, 7), row(15), row(16))
        self.assertEqual(told, [[16], [-22], [4, 0, 1, 0, 1], [-22], [3], [-22], [4, 1, 0, 0, 1], [-2]])
