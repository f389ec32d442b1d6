import unittest

from tests.lines import (HIGHEST, KINDS, LOWEST, ask, ask_after, begin, drop, row, size, term_all, term_many,
                         want)

TWELVE = [term_all(1, [0])] * 12
TWELVE_MANY = [term_many(1, 1, [0])] * 12
NUMBERS = [[number] for number in range(12)]


class AllTest(unittest.TestCase):
    def test_numbers_from_0(self):
        self.assertEqual(ask_after(begin(2, 2), term_all(5, [0]), term_all(-5, [1, 2]), term_all(0, [7])),
                         [[0], [1], [2]])

    def test_weights(self):
        told = ask_after(begin(2, 2), term_all(-101, [0]), term_all(-100, [0]), term_all(100, [0]),
                         term_all(101, [0]), term_all(0, [0]), term_all(LOWEST, [0]), term_all(HIGHEST, [0]))
        self.assertEqual(told, [[-22], [0], [1], [-22], [2], [-22], [-22]])

    def test_how_long_the_row_is(self):
        told = ask_after(begin(5, 2), term_all(1, []), term_all(1, [0]), term_all(1, list(range(20))),
                         term_all(1, list(range(21))), term_all(1, [0] * 20), term_all(1, [0] * 21),
                         term_all(1, [0] * 70))
        self.assertEqual(told, [[-22], [0], [1], [-22], [2], [-22], [-22]])

    def test_what_is_told_of_coins(self):
        for m in range(1, 7):
            top = 2 * 2 ** m
            told = ask_after(begin(m, 1), term_all(1, [-1]), term_all(1, [0]), term_all(1, [top - 1]),
                             term_all(1, [top]), term_all(1, [0, top]), term_all(1, [0, -1]),
                             term_all(1, [LOWEST]), term_all(1, [HIGHEST]), term_all(1, [0]))
            with self.subTest(m=m):
                self.assertEqual(told, [[-22], [0], [1], [-22], [-22], [-22], [-22], [-22], [2]])

    def test_both_of_one_coin(self):
        self.assertEqual(ask_after(begin(1, 1), term_all(1, [0, 1]), term_all(1, [2, 3])), [[0], [1]])

    def test_need_not_be_rising(self):
        self.assertEqual(ask_after(begin(2, 2), term_all(1, [7, 0, 3]), term_all(1, [4, 4])), [[0], [1]])

    def test_for_faint_coins(self):
        self.assertEqual(ask_after(begin(4, 2, 1), term_all(1, [31]), term_all(1, [32]), term_all(1, [0])),
                         [[0], [-22], [1]])

    def test_at_most_12(self):
        told = ask_after(begin(2, 2), *TWELVE, term_all(1, [0]), term_all(1, [0]))
        self.assertEqual(told, [[number] for number in range(12)] + [[-28], [-28]])

    def test_wrong_is_told_ahead_of_full(self):
        told = ask_after(begin(2, 2), *TWELVE, term_all(101, [0]), term_all(-101, [0]), term_all(1, []),
                         term_all(1, [0] * 21), term_all(1, [-1]), term_all(1, [8]), term_all(1, [7]))
        self.assertEqual(told[12:], [[-22]] * 6 + [[-28]])

    def test_refused_ones_do_not_count(self):
        told = ask_after(begin(2, 2), *[term_all(101, [0])] * 13, *TWELVE, term_all(1, [0]))
        self.assertEqual(told, [[-22]] * 13 + [[number] for number in range(12)] + [[-28]])

    def test_begin_again_leaves_no_terms(self):
        told = ask(begin(2, 2), *TWELVE, begin(2, 2), *TWELVE, term_all(1, [0]))
        self.assertEqual(told, [[16]] + NUMBERS + [[16]] + NUMBERS + [[-28]])

    def test_refused_begin_leaves_the_terms(self):
        told = ask(begin(2, 2), term_all(1, [0]), begin(2, 2, 2), term_all(1, [0]), begin(7, 1), *TWELVE)
        self.assertEqual(told, [[16], [0], [-22], [1], [-22]] + [[number] for number in range(2, 12)] + [[-28]] * 2)

    def test_terms_leave_the_coins(self):
        told = ask(begin(2, 2), row(6), *TWELVE, term_all(1, [0]), row(6))
        self.assertEqual(told[1], told[-1])


class ManyTest(unittest.TestCase):
    def test_numbers_from_0(self):
        told = ask_after(begin(2, 2), term_many(5, 1, [0]), term_all(1, [0]), term_many(-5, 2, [0, 1, 3]),
                         term_many(0, 0, [3]), term_all(1, [7]))
        self.assertEqual(told, [[0], [1], [2], [3], [4]])

    def test_weights(self):
        told = ask_after(begin(2, 2), *[term_many(w, 1, [0]) for w in (-101, -100, 100, 101, 0, LOWEST, HIGHEST)])
        self.assertEqual(told, [[-22], [0], [1], [-22], [2], [-22], [-22]])

    def test_t(self):
        told = ask_after(begin(2, 2), *[term_many(1, t, [0, 1]) for t in (-1, 0, 2, 3, 20, 21, LOWEST, HIGHEST)])
        self.assertEqual(told, [[-22], [0], [1], [2], [3], [-22], [-22], [-22]])

    def test_t_reaches_20_also_of_more_coins(self):
        told = ask_after(begin(5, 2), *[term_many(1, t, range(32)) for t in (20, 21, 32)])
        self.assertEqual(told, [[0], [-22], [-22]])

    def test_which_coins(self):
        for m, k, f in KINDS:
            top = 2 ** m
            rows = [[-1], [0], [top - 1], [top], [0, top], [-1, 0], [LOWEST], [HIGHEST], range(top), range(top + 1),
                    range(-1, top)]
            with self.subTest(m=m, k=k, f=f):
                self.assertEqual(ask_after(begin(m, k, f), *[term_many(1, 1, coins) for coins in rows]),
                                 [[-22], [0], [1], [-22], [-22], [-22], [-22], [-22], [2], [-22], [-22]])

    def test_the_row_has_a_coin_and_is_rising(self):
        rows = [[], [1, 0], [0, 0], [0, 2, 1], [0, 1, 1], [3, 3], [0, 1, 2, 3, 0], [0] * 70, list(range(70)), [0, 1, 3]]
        told = ask_after(begin(2, 2), *[term_many(1, 1, coins) for coins in rows])
        self.assertEqual(told, [[-22]] * 9 + [[0]])

    def test_more_than_20_coins(self):
        told = ask_after(begin(6, 1), term_many(1, 1, range(20)), term_many(1, 1, range(21)),
                         term_many(1, 1, range(64)))
        self.assertEqual(told, [[0], [1], [2]])

    def test_at_most_12(self):
        told = ask_after(begin(2, 2), *TWELVE_MANY, term_many(1, 1, [0]), term_many(1, 1, [0]), term_all(1, [0]))
        self.assertEqual(told, NUMBERS + [[-28]] * 3)

    def test_at_most_12_of_both_sorts(self):
        told = ask_after(begin(2, 2), *TWELVE[:7], *TWELVE_MANY[:5], term_many(1, 1, [0]), term_all(1, [0]), size())
        self.assertEqual(told, NUMBERS + [[-28], [-28], [4, 16, 12]])

    def test_wrong_is_told_ahead_of_full(self):
        wrong = [term_many(101, 1, [0]), term_many(-101, 1, [0]), term_many(1, -1, [0]), term_many(1, 21, [0]),
                 term_many(1, 1, []), term_many(1, 1, [4]), term_many(1, 1, [-1]), term_many(1, 1, [1, 0]),
                 term_many(1, 1, [0, 0]), term_all(1, []), term_all(101, [0])]
        told = ask_after(begin(2, 2), *TWELVE_MANY, *wrong, term_many(1, 1, [0]))
        self.assertEqual(told[12:], [[-22]] * len(wrong) + [[-28]])

    def test_wrong_in_several_ways(self):
        self.assertEqual(ask_after(begin(2, 2), term_many(101, 21, [1, 0]), term_many(-101, -1, []), size()),
                         [[-22], [-22], [4, 16, 0]])

    def test_refused_ones_do_not_count(self):
        told = ask_after(begin(2, 2), *[term_many(1, 21, [0])] * 13, *TWELVE_MANY, term_many(1, 1, [0]))
        self.assertEqual(told, [[-22]] * 13 + NUMBERS + [[-28]])

    def test_begin_again_leaves_no_terms(self):
        told = ask(begin(2, 2), *TWELVE_MANY, begin(2, 2), size(), *TWELVE_MANY, term_many(1, 1, [0]))
        self.assertEqual(told, [[16]] + NUMBERS + [[16], [4, 16, 0]] + NUMBERS + [[-28]])

    def test_refused_begin_leaves_the_terms(self):
        told = ask(begin(2, 2), term_many(1, 1, [0]), begin(2, 2, 2), size(), term_many(1, 1, [0]))
        self.assertEqual(told, [[16], [0], [-22], [4, 16, 1], [1]])


class RoomTest(unittest.TestCase):
    """What a drop and a want do to the calls that make terms."""

    def test_drop_makes_room_for_one(self):
        told = ask_after(begin(2, 2), *TWELVE, drop(0), term_many(1, 1, [0]), term_all(1, [0]), drop(11),
                         term_all(1, [0]), term_many(1, 1, [0]))
        self.assertEqual(told[12:], [[11], [11], [-28], [11], [11], [-28]])

    def test_the_next_number_is_how_many_there_were(self):
        told = ask_after(begin(2, 2), *TWELVE[:3], drop(1), term_all(1, [0]), drop(0), drop(0), drop(0),
                         term_all(1, [0]))
        self.assertEqual(told, [[0], [1], [2], [2], [2], [2], [1], [0], [0]])

    def test_want_leaves_the_terms(self):
        told = ask_after(begin(2, 2), term_all(1, [0]), want(1), size(), term_all(1, [0]), want(0), size(), want(1),
                         term_many(1, 1, [0]))
        self.assertEqual(told, [[0], [0], [4, 16, 1], [1], [1], [4, 16, 2], [0], [2]])
