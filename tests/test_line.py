import contextlib
import io
import random
import unittest

from fewcoins.seeds import answers
from tests.lines import (HIGHEST, LOWEST, ask, begin, best, chances, coin, count, drop, joined, means, mul, odds, power,
                         row, size, split, term_all, term_many, want, worth)
from tests.model import Model

# Calls of each kind but begin, good or wrong in many ways.
OTHERS = [mul(1, 1), mul(-1, 1), power(1, 1), power(1, 101), coin(0, 0), coin(-1, 0), row(0), row(HIGHEST),
          count([0], [0]), count([], []), count([1, 0], [0]), odds([0]), odds([]), odds([LOWEST]), term_all(1, [0]),
          term_all(101, []), term_many(1, 0, [0]), term_many(101, -1, []), term_many(1, 1, [1, 0]), drop(0), drop(-1),
          want(0), want(1), want(2), means(), worth(0), worth(-1), best(), chances(0), chances(HIGHEST), size()]

MIXED = joined([mul(1, 1), size(), begin(0, 1), row(0), begin(3, 2), mul(3, 3), power(2, 7), coin(17, 4), row(17),
                count([0, 3], [1, 0]), odds([1, 2, 5]), term_all(7, [3, 3, 2]), begin(6, 2), term_all(7, [16]),
                term_all(-7, [15]), term_many(2, 1, [0, 1]), want(1), best(), means(), chances(1), drop(0), chances(0),
                worth(64), worth(17), size(), begin(2, 2, 1), size(), want(0), term_all(1, [0]), row(14)])
MIXED_ANSWERS = [[-11], [-11], [-22], [-11], [64], [5], [1], [0], [8, 1, 1, 1, 1, 0, 0, 0, 0], [16, 64], [32, 64], [0],
                 [-22], [-22], [1], [2], [0], [9, 2], [1, -2, 1, -2, 1], [1, 1, 2, 1, 2], [2], [1, 1, 2, 1, 2], [-2],
                 [0, 2], [8, 64, 2], [16], [4, 16, 0], [0], [0], [4, 1, 1, 0, 1]]


class BeforeBeginTest(unittest.TestCase):
    def test_all_else_is_refused(self):
        for call in OTHERS:
            with self.subTest(call=call):
                self.assertEqual(ask(call), [[-11]])

    def test_also_behind_a_refused_begin(self):
        for call in OTHERS:
            with self.subTest(call=call):
                self.assertEqual(ask(begin(7, 1), call, begin(2, 2, 2), call), [[-22], [-11], [-22], [-11]])

    def test_nothing_of_it_is_kept(self):
        told = ask(*[term_all(1, [0])] * 13, want(1), term_many(1, 0, [0]), begin(1, 1), want(0), size(),
                   term_all(1, [0]), row(1))
        self.assertEqual(told, [[-11]] * 15 + [[2], [0], [2, 2, 0], [0], [2, 1, 1]])


class LineTest(unittest.TestCase):
    def test_many_calls_in_order(self):
        self.assertEqual(split(answers(MIXED)), MIXED_ANSWERS)

    def test_each_answer_has_its_length_before_it(self):
        calls = joined([row(0), begin(2, 2), row(6), odds([0]), count([], []), coin(99, 0)])
        self.assertEqual(answers(calls), [1, -11, 1, 16, 5, 4, 0, 1, 0, 1, 2, 8, 16, 2, 16, 16, 1, -2])

    def test_one_call(self):
        self.assertEqual(answers([0, 1, 1, 0]), [1, 2])
        self.assertEqual(answers([15]), [1, -11])

    def test_sixty_calls(self):
        self.assertEqual(ask(begin(5, 2), *[odds(range(32))] * 59), [[1024]] + [[0, 1024]] * 59)
        self.assertEqual(ask(*[begin(5, 2)] * 60), [[1024]] * 60)

    def test_longest_rows(self):
        longest = count(range(70), [1] * 70)
        self.assertEqual(ask(begin(6, 1), *[longest] * 58, row(1)), [[64]] + [[-22]] * 58 + [[64] + [1] * 64])

    def test_refused_calls_change_nothing(self):
        terms = [term_all(5, [3, 6]), term_many(-3, 2, [0, 1, 4]), term_all(2, [0]), want(1)]
        good = [row(9), coin(9, 1), mul(3, 5), power(3, 5), count([0, 3], [1, 0]), odds([1, 2, 5]), size(), means(),
                best(), worth(9), chances(0), chances(1), chances(2)]
        refused = [begin(9, 9), mul(8, 1), power(1, 101), coin(64, 0), coin(0, 8), row(-1), count([0], [2]),
                   odds([8]), term_all(1, []), term_all(101, [0]), term_many(101, 0, [0]), term_many(1, 21, [0]),
                   term_many(1, 0, []), drop(3), drop(-1), want(2), want(-1), worth(64), chances(3)]
        told = ask(begin(3, 2), *terms, *good, *refused, *good, want(1))
        first, between, second = told[5:18], told[18:37], told[37:50]
        self.assertEqual([len(answer) for answer in between], [1] * 19)
        self.assertTrue(all(answer[0] < 0 for answer in between))
        self.assertEqual(first, second)
        self.assertEqual(told[50:], [[1]])

    def test_looking_changes_nothing(self):
        terms = [term_all(5, [3, 6]), term_many(-3, 2, [0, 1, 4]), want(1)]
        looks = [size(), means(), best(), worth(9), chances(0), chances(1), row(9), odds([0, 1])]
        told = ask(begin(3, 2), *terms, *looks, *looks, *reversed(looks), want(1))
        self.assertEqual(told[4:12], told[12:20])
        self.assertEqual(told[4:12], told[27:19:-1])
        self.assertEqual(told[28], [1])

    def test_handed_in_is_unchanged(self):
        calls = list(MIXED)
        answers(calls)
        self.assertEqual(calls, MIXED)

    def test_handed_in_is_only_read(self):
        class ReadOnly(list):
            def refuse(self, *args):
                raise AssertionError("changed")

            __setitem__ = __delitem__ = __iadd__ = __imul__ = refuse
            append = clear = extend = insert = pop = remove = reverse = sort = refuse

        self.assertEqual(split(answers(ReadOnly(MIXED))), MIXED_ANSWERS)

    def test_twice_the_same_and_nothing_kept(self):
        first = answers(MIXED)
        self.assertEqual(ask(row(0), term_all(1, [0]), begin(2, 2), size(), want(0)),
                         [[-11], [-11], [16], [4, 16, 0], [0]])
        second = answers(MIXED)
        self.assertEqual(first, second)
        self.assertIsNot(first, second)

    def test_changing_what_is_given_back_touches_nothing(self):
        answers(MIXED).clear()
        self.assertEqual(split(answers(MIXED)), MIXED_ANSWERS)

    def test_gives_a_list_of_whole_numbers(self):
        told = answers(MIXED)
        self.assertIs(type(told), list)
        self.assertEqual({type(number) for number in told}, {int})

    def test_prints_nothing(self):
        out, err = io.StringIO(), io.StringIO()
        with contextlib.redirect_stdout(out), contextlib.redirect_stderr(err):
            answers(MIXED)
        self.assertEqual((out.getvalue(), err.getvalue()), ("", ""))


BUILDERS = {"begin": begin, "mul": mul, "power": power, "coin": coin, "row": row, "count": count, "odds": odds,
            "term_all": term_all, "term_many": term_many, "drop": drop, "want": want, "means": means, "worth": worth,
            "best": best, "chances": chances, "size": size}
# Terms come more often, so that there are many of them to look at.
NAMES = list(BUILDERS) + ["term_all", "term_many"] * 4 + ["chances", "means", "best"]


def drawn_row(draw, top, most):
    if draw.random() < 0.7:
        return sorted(draw.sample(range(top), min(top, draw.randrange(most + 1))))
    return [draw.randrange(-1, top + 2) for each in range(draw.randrange(most + 1))]


def drawn_lie(draw, top):
    if draw.random() < 0.8:
        return [draw.randrange(2 * top) for each in range(draw.randrange(1, 5))]
    return drawn_row(draw, 2 * top, 22)


def drawn_call(draw):
    name = draw.choice(NAMES)
    top = draw.choice([2, 4, 4, 8, 8, 16, 32, 64])
    weight = draw.choice([-101, -100, -9, -1, 0, 1, 7, 7, 100, 101])
    if name == "begin":
        return name, draw.choice([draw.randrange(0, 8), 2, 3]), draw.randrange(0, 5), draw.choice([0, 0, 1, 1, 2])
    if name == "power":
        return name, draw.randrange(-1, top + 1), draw.randrange(-1, 102)
    if name in ("mul", "coin"):
        return name, draw.randrange(-1, top + 1), draw.randrange(-1, top + 1)
    if name in ("row", "worth"):
        return name, draw.randrange(-1, top * top)
    if name == "odds":
        return name, drawn_row(draw, top, 6)
    if name == "count":
        coins = drawn_row(draw, top, 4)
        lie = [draw.choice([0, 0, 0, 1, 1, 1, 2, -1]) for each in range(len(coins) + draw.choice([0, 0, 0, 0, 1]))]
        return name, coins, lie
    if name == "term_all":
        return name, weight, drawn_lie(draw, top)
    if name == "term_many":
        return name, weight, draw.choice([-1, 0, 1, 1, 2, 2, 3, 4, 20, 21]), drawn_row(draw, top, 8)
    if name in ("drop", "chances"):
        return name, draw.randrange(-1, 14 if name == "drop" else 6)
    if name == "want":
        return name, draw.choice([-1, 0, 1, 1, 2])
    return (name,)


class DrawnLinesTest(unittest.TestCase):
    def test_as_the_document_says(self):
        draw = random.Random(109)
        for number in range(300):
            calls = [drawn_call(draw) for each in range(draw.randrange(1, 60))]
            if draw.random() < 0.8:
                calls.insert(0, ("begin", 2 + number % 2, 1 + number % 3, 0))
            model = Model()
            expected = [model.answer(*call) for call in calls]
            told = ask(*[BUILDERS[call[0]](*call[1:]) for call in calls])
            self.assertEqual(told, expected, calls)
