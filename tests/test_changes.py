"""Drop and want: what becomes of the terms, and of what is wished."""

import unittest

from tests.lines import (HIGHEST, LOWEST, ask, ask_after, begin, best, chances, drop, means, size, term_all, term_many,
                         want, worth)

# Four that are told apart by how many coins they look at, and by their weights.
FOUR = [term_all(1, [1]), term_all(10, [0, 2]), term_many(50, 1, [0, 1, 2]), term_many(100, 0, [0, 1, 2, 3])]


def looked_at(*changes):
    """How many coins each of the terms that are left looks at."""
    told = ask_after(begin(2, 2), *FOUR, *changes, *[chances(j) for j in range(5)])
    return [answer[0] for answer in told[-5:] if answer != [-2]]


class DropTest(unittest.TestCase):
    def test_says_how_many_are_left(self):
        told = ask_after(begin(2, 2), *FOUR, drop(1), drop(1), drop(1), drop(0), drop(0))
        self.assertEqual(told[4:], [[3], [2], [1], [0], [-2]])

    def test_those_behind_are_numbered_one_less(self):
        self.assertEqual(looked_at(), [1, 2, 3, 4])
        self.assertEqual(looked_at(drop(0)), [2, 3, 4])
        self.assertEqual(looked_at(drop(1)), [1, 3, 4])
        self.assertEqual(looked_at(drop(2)), [1, 2, 4])
        self.assertEqual(looked_at(drop(3)), [1, 2, 3])
        self.assertEqual(looked_at(drop(1), drop(1)), [1, 4])
        self.assertEqual(looked_at(drop(0), drop(2)), [2, 3])

    def test_no_such_term(self):
        told = ask_after(begin(2, 2), drop(0), drop(-1), *FOUR, drop(-1), drop(4), drop(-4), drop(LOWEST),
                         drop(HIGHEST), size(), drop(3), drop(3), size())
        self.assertEqual(told, [[-2], [-2], [0], [1], [2], [3]] + [[-2]] * 5 + [[4, 16, 4], [3], [-2], [4, 16, 3]])

    def test_first_and_last_of_12(self):
        twelve = [term_all(w, [0]) for w in range(12)]
        told = ask_after(begin(2, 2), *twelve, drop(12), drop(11), worth(0), drop(11), drop(0), worth(0), drop(-1))
        self.assertEqual(told[12:], [[-2], [11], [0, 55], [-2], [10], [0, 55], [-2]])

    def test_what_is_dropped_is_counted_no_more(self):
        # Seed 5 is 1 and 1: its coins are 1, 0, 1, 0.
        told = ask_after(begin(2, 2), *FOUR, worth(5), drop(0), worth(5), drop(1), worth(5), drop(1), worth(5), drop(0),
                         worth(5), means(), best())
        self.assertEqual(told[4:], [[0, 151], [3], [0, 150], [2], [0, 100], [1], [0, 0], [0], [0, 0],
                                    [1, 0, 1, 0, 1], [0, 0]])

    def test_leaves_what_is_wished(self):
        self.assertEqual(ask_after(begin(2, 2), want(1), term_all(1, [0]), drop(0), want(1)), [[0], [0], [0], [1]])

    def test_of_like_terms_one(self):
        self.assertEqual(ask_after(begin(2, 2), *[term_all(3, [0])] * 3, worth(0), drop(1), worth(0), size())[3:],
                         [[0, 9], [2], [0, 6], [4, 16, 2]])


class WantTest(unittest.TestCase):
    def test_says_what_was_wished(self):
        told = ask_after(begin(2, 2), want(0), want(1), want(1), want(0), want(0), want(1), want(0))
        self.assertEqual(told, [[0], [0], [1], [1], [0], [0], [1]])

    def test_wrong(self):
        told = ask_after(begin(2, 2), *[want(v) for v in (-1, 2, LOWEST, HIGHEST, -2, 3)], want(1),
                         *[want(v) for v in (-1, 2, LOWEST, HIGHEST)], want(0))
        self.assertEqual(told, [[-22]] * 6 + [[0]] + [[-22]] * 4 + [[1]])

    def test_turns_what_is_best(self):
        told = ask_after(begin(2, 2), term_all(3, [1]), best(), want(1), best(), want(2), best(), want(0), best())
        self.assertEqual(told[1:], [[0, 0], [0], [1, 3], [-22], [1, 3], [1], [0, 0]])

    def test_begin_again_leaves_little_wished(self):
        told = ask(begin(2, 2), want(1), begin(2, 2), term_all(3, [1]), best(), want(0))
        self.assertEqual(told, [[16], [0], [16], [0], [0, 0], [0]])

    def test_refused_begin_leaves_what_is_wished(self):
        told = ask(begin(2, 2), want(1), term_all(3, [1]), begin(7, 7), best(), want(1))
        self.assertEqual(told, [[16], [0], [0], [-22], [1, 3], [1]])

    def test_turns_nothing_else(self):
        looks = [means(), worth(3), chances(0), size()]
        told = ask_after(begin(2, 2), term_many(-3, 2, [0, 1, 2]), *looks, want(1), *looks)
        self.assertEqual(told[1:5], told[6:])
