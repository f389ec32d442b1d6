import unittest

from tests.lines import HIGHEST, LOWEST, ask, ask_after, begin, row, term_all

TWELVE = [term_all(1, [0])] * 12


class AllTest(unittest.TestCase):
    def test_numbers_from_0(self):
        self.assertEqual(ask_after(begin(2, 2), term_all(5, [0]), term_all(-5, [1, 2]), term_all(0, [7])),
                         [[0], [1], [2]])

    def test_weights(self):
        told = ask_after(begin(2, 2), term_all(-101, [0]), term_all(-100, [0]), term_all(100, [0]),
                         term_all(101, [0]), term_all(0, [0]), term_all(LOWEST, [0]), term_all(HIGHEST, [0]))
        self.assertEqual(told, [[-22], [0], [1], [-22], [2], [-22], [-22]])

    def test_how_long_the_row_is(self):
        told = ask_after(begin(5, 2), term_all(1, []), term_all(1, [0]), term_all(1, list(range(20))),
                         term_all(1, list(range(21))), term_all(1, [0] * 20), term_all(1, [0] * 21),
                         term_all(1, [0] * 70))
        self.assertEqual(told, [[-22], [0], [1], [-22], [2], [-22], [-22]])

    def test_what_is_told_of_coins(self):
        for m in range(1, 7):
            top = 2 * 2 ** m
            told = ask_after(begin(m, 1), term_all(1, [-1]), term_all(1, [0]), term_all(1, [top - 1]),
                             term_all(1, [top]), term_all(1, [0, top]), term_all(1, [0, -1]),
                             term_all(1, [LOWEST]), term_all(1, [HIGHEST]), term_all(1, [0]))
            with self.subTest(m=m):
                self.assertEqual(told, [[-22], [0], [1], [-22], [-22], [-22], [-22], [-22], [2]])

    def test_both_of_one_coin(self):
        self.assertEqual(ask_after(begin(1, 1), term_all(1, [0, 1]), term_all(1, [2, 3])), [[0], [1]])

    def test_need_not_be_rising(self):
        self.assertEqual(ask_after(begin(2, 2), term_all(1, [7, 0, 3]), term_all(1, [4, 4])), [[0], [1]])

    def test_for_faint_coins(self):
        self.assertEqual(ask_after(begin(4, 2, 1), term_all(1, [31]), term_all(1, [32]), term_all(1, [0])),
                         [[0], [-22], [1]])

    def test_at_most_12(self):
        told = ask_after(begin(2, 2), *TWELVE, term_all(1, [0]), term_all(1, [0]))
        self.assertEqual(told, [[number] for number in range(12)] + [[-28], [-28]])

    def test_wrong_is_told_ahead_of_full(self):
        told = ask_after(begin(2, 2), *TWELVE, term_all(101, [0]), term_all(-101, [0]), term_all(1, []),
                         term_all(1, [0] * 21), term_all(1, [-1]), term_all(1, [8]), term_all(1, [7]))
        self.assertEqual(told[12:], [[-22]] * 6 + [[-28]])

    def test_refused_ones_do_not_count(self):
        told = ask_after(begin(2, 2), *[term_all(101, [0])] * 13, *TWELVE, term_all(1, [0]))
        self.assertEqual(told, [[-22]] * 13 + [[number] for number in range(12)] + [[-28]])

    def test_begin_again_leaves_no_terms(self):
        told = ask(begin(2, 2), *TWELVE, begin(2, 2), *TWELVE, term_all(1, [0]))
        twelve = [[number] for number in range(12)]
        self.assertEqual(told, [[16]] + twelve + [[16]] + twelve + [[-28]])

    def test_refused_begin_leaves_the_terms(self):
        told = ask(begin(2, 2), term_all(1, [0]), begin(2, 2, 2), term_all(1, [0]), begin(7, 1), *TWELVE)
        self.assertEqual(told, [[16], [0], [-22], [1], [-22]] + [[number] for number in range(2, 12)] + [[-28]] * 2)

    def test_terms_leave_the_coins(self):
        told = ask(begin(2, 2), row(6), *TWELVE, term_all(1, [0]), row(6))
        self.assertEqual(told[1], told[-1])
