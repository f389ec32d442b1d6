import contextlib
import io
import random
import unittest

from fewcoins.seeds import answers
from tests import plain
from tests.lines import (HIGHEST, LOWEST, ask, begin, coin, count, joined, mul, odds, power, row, row_of, split,
                         term_all)

# One call of each kind but begin, good or wrong in many ways.
OTHERS = [mul(1, 1), mul(-1, 1), power(1, 1), power(1, 101), coin(0, 0), coin(-1, 0), row(0), row(HIGHEST),
          count([0], [0]), count([], []), count([1, 0], [0]), odds([0]), odds([]), odds([LOWEST]), term_all(1, [0]),
          term_all(101, []), [8, 1, 0] + row_of([0]), [8, 101, -1] + row_of([]), [9, 0], [10, 0], [10, 2], [11],
          [12, 0], [12, -1], [13], [14, 0], [15]]

MIXED = joined([mul(1, 1), begin(0, 1), row(0), begin(3, 2), mul(3, 3), power(2, 7), coin(17, 4), row(17),
                count([0, 3], [1, 0]), odds([1, 2, 5]), term_all(7, [3, 3, 2]), begin(6, 2), term_all(7, [16]),
                term_all(-7, [15]), begin(2, 2, 1), term_all(1, [0]), row(14)])
MIXED_ANSWERS = [[-11], [-22], [-11], [64], [5], [1], [0], [8, 1, 1, 1, 1, 0, 0, 0, 0], [16, 64], [32, 64], [0], [-22],
                 [-22], [1], [16], [0], [4, 1, 1, 0, 1]]


class BeforeBeginTest(unittest.TestCase):
    def test_all_else_is_refused(self):
        for call in OTHERS:
            with self.subTest(call=call):
                self.assertEqual(ask(call), [[-11]])

    def test_also_behind_a_refused_begin(self):
        for call in OTHERS:
            with self.subTest(call=call):
                self.assertEqual(ask(begin(7, 1), call, begin(2, 2, 2), call), [[-22], [-11], [-22], [-11]])

    def test_nothing_of_it_is_kept(self):
        told = ask(*[term_all(1, [0])] * 13, begin(1, 1), term_all(1, [0]), row(1))
        self.assertEqual(told, [[-11]] * 13 + [[2], [0], [2, 1, 1]])


class LineTest(unittest.TestCase):
    def test_many_calls_in_order(self):
        self.assertEqual(split(answers(MIXED)), MIXED_ANSWERS)

    def test_each_answer_has_its_length_before_it(self):
        calls = joined([row(0), begin(2, 2), row(6), odds([0]), count([], []), coin(99, 0)])
        self.assertEqual(answers(calls), [1, -11, 1, 16, 5, 4, 0, 1, 0, 1, 2, 8, 16, 2, 16, 16, 1, -2])

    def test_one_call(self):
        self.assertEqual(answers([0, 1, 1, 0]), [1, 2])
        self.assertEqual(answers([15]), [1, -11])

    def test_sixty_calls(self):
        self.assertEqual(ask(begin(5, 2), *[odds(range(32))] * 59), [[1024]] + [[0, 1024]] * 59)
        self.assertEqual(ask(*[begin(5, 2)] * 60), [[1024]] * 60)

    def test_longest_rows(self):
        longest = count(range(70), [1] * 70)
        self.assertEqual(ask(begin(6, 1), *[longest] * 58, row(1)), [[64]] + [[-22]] * 58 + [[64] + [1] * 64])

    def test_refused_calls_change_nothing(self):
        good = [row(9), coin(9, 1), mul(3, 5), power(3, 5), count([0, 3], [1, 0]), odds([1, 2, 5])]
        refused = [begin(9, 9), mul(8, 1), power(1, 101), coin(64, 0), coin(0, 8), row(-1), count([0], [2]),
                   odds([8]), term_all(1, [])]
        told = ask(begin(3, 2), *good, *refused, *good)
        self.assertEqual([len(answer) for answer in told[7:16]], [1] * 9)
        self.assertTrue(all(answer[0] < 0 for answer in told[7:16]))
        self.assertEqual(told[1:7], told[16:])

    def test_handed_in_is_unchanged(self):
        calls = list(MIXED)
        answers(calls)
        self.assertEqual(calls, MIXED)

    def test_handed_in_is_only_read(self):
        class ReadOnly(list):
            def refuse(self, *args):
                raise AssertionError("changed")

            __setitem__ = __delitem__ = __iadd__ = __imul__ = refuse
            append = clear = extend = insert = pop = remove = reverse = sort = refuse

        self.assertEqual(split(answers(ReadOnly(MIXED))), MIXED_ANSWERS)

    def test_twice_the_same_and_nothing_kept(self):
        first = answers(MIXED)
        self.assertEqual(ask(row(0), term_all(1, [0])), [[-11], [-11]])
        second = answers(MIXED)
        self.assertEqual(first, second)
        self.assertIsNot(first, second)

    def test_changing_what_is_given_back_touches_nothing(self):
        answers(MIXED).clear()
        self.assertEqual(split(answers(MIXED)), MIXED_ANSWERS)

    def test_gives_a_list_of_whole_numbers(self):
        told = answers(MIXED)
        self.assertIs(type(told), list)
        self.assertEqual({type(number) for number in told}, {int})

    def test_prints_nothing(self):
        out, err = io.StringIO(), io.StringIO()
        with contextlib.redirect_stdout(out), contextlib.redirect_stderr(err):
            answers(MIXED)
        self.assertEqual((out.getvalue(), err.getvalue()), ("", ""))


class Model:
    """One object, told once more after the words of the document."""

    def __init__(self):
        self.begun = None
        self.terms = 0

    def rising(self, coins):
        return all(0 <= i < self.size for i in coins) and all(a < b for a, b in zip(coins, coins[1:]))

    def begin(self, m, k, f):
        good = 1 <= m <= 6 and k >= 1 and m * k <= 10 and f in (0, 1) and not (f == 1 and (k != 2 or m > 4))
        if not good:
            return [-22]
        self.begun, self.size, self.terms = (m, k, f), 2 ** m, 0
        self.rows = plain.rows(m, k, f)
        return [len(self.rows)]

    def mul(self, x, y):
        good = 0 <= x < self.size and 0 <= y < self.size
        return [plain.product(self.begun[0], x, y)] if good else [-22]

    def power(self, x, e):
        return [plain.power(self.begun[0], x, e)] if 0 <= x < self.size and 0 <= e <= 100 else [-22]

    def coin(self, s, i):
        return [self.rows[s][i]] if 0 <= s < len(self.rows) and 0 <= i < self.size else [-2]

    def row(self, s):
        return [self.size] + self.rows[s] if 0 <= s < len(self.rows) else [-2]

    def count(self, coins, lie):
        if not self.rising(coins) or len(coins) != len(lie) or set(lie) - {0, 1}:
            return [-22]
        return [sum([row[i] for i in coins] == lie for row in self.rows), len(self.rows)]

    def odds(self, coins):
        if not self.rising(coins):
            return [-22]
        return [sum(sum(row[i] for i in coins) % 2 for row in self.rows), len(self.rows)]

    def term_all(self, w, lie):
        if not -100 <= w <= 100 or not 1 <= len(lie) <= 20 or not all(0 <= told < 2 * self.size for told in lie):
            return [-22]
        if self.terms == 12:
            return [-28]
        self.terms += 1
        return [self.terms - 1]

    def answer(self, name, *told):
        if name != "begin" and self.begun is None:
            return [-11]
        return getattr(self, name)(*told)


BUILDERS = {"begin": begin, "mul": mul, "power": power, "coin": coin, "row": row, "count": count, "odds": odds,
            "term_all": term_all}


def drawn_row(draw, top, most):
    if draw.random() < 0.7:
        return sorted(draw.sample(range(top), min(top, draw.randrange(most + 1))))
    return [draw.randrange(-1, top + 2) for each in range(draw.randrange(most + 1))]


def drawn_call(draw):
    name = draw.choice(["begin", "mul", "power", "coin", "row", "count", "odds", "term_all", "term_all", "term_all"])
    top = draw.choice([2, 4, 8, 16, 32, 64])
    if name == "begin":
        return name, draw.choice([draw.randrange(0, 8), 2, 3]), draw.randrange(0, 5), draw.choice([0, 0, 1, 1, 2])
    if name == "power":
        return name, draw.randrange(-1, top + 1), draw.randrange(-1, 102)
    if name in ("mul", "coin"):
        return name, draw.randrange(-1, top + 1), draw.randrange(-1, top + 1)
    if name == "row":
        return name, draw.randrange(-1, top * top)
    if name == "odds":
        return name, drawn_row(draw, top, 6)
    if name == "count":
        coins = drawn_row(draw, top, 4)
        lie = [draw.choice([0, 0, 0, 1, 1, 1, 2, -1]) for each in range(len(coins) + draw.choice([0, 0, 0, 0, 1]))]
        return name, coins, lie
    return name, draw.choice([-101, -100, 0, 7, 100, 101]), drawn_row(draw, top, 22)


class DrawnLinesTest(unittest.TestCase):
    def test_as_the_document_says(self):
        draw = random.Random(109)
        for number in range(300):
            calls = [drawn_call(draw) for each in range(draw.randrange(1, 60))]
            if draw.random() < 0.8:
                calls.insert(0, ("begin", 2 + number % 2, 1 + number % 3, 0))
            model = Model()
            expected = [model.answer(*call) for call in calls]
            told = ask(*[BUILDERS[call[0]](*call[1:]) for call in calls])
            self.assertEqual(told, expected, calls)
