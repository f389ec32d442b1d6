import unittest

from tests import plain
from tests.lines import HIGHEST, LOWEST, ask_after, ask_many, begin, mul, power


class MulTest(unittest.TestCase):
    def test_by_hand(self):
        for m, x, y, product in [(1, 1, 1, 1), (2, 2, 2, 3), (2, 2, 3, 1), (2, 3, 3, 2), (3, 2, 4, 3), (3, 3, 3, 5),
                                 (3, 7, 7, 3), (4, 2, 8, 3), (5, 2, 16, 5), (6, 2, 32, 3), (6, 5, 3, 15)]:
            with self.subTest(m=m, x=x, y=y):
                self.assertEqual(ask_after(begin(m, 1), mul(x, y)), [[product]])

    def test_every_product(self):
        for m in range(1, 7):
            pairs = [(x, y) for x in range(2 ** m) for y in range(2 ** m)]
            told = ask_many(begin(m, 1), [mul(x, y) for x, y in pairs])
            self.assertEqual(told, [[plain.product(m, x, y)] for x, y in pairs])

    def test_each_but_0_makes_1_with_just_one(self):
        for m in range(1, 7):
            for x in range(2 ** m):
                told = ask_many(begin(m, 1), [mul(x, y) for y in range(2 ** m)])
                with self.subTest(m=m, x=x):
                    self.assertEqual(told.count([1]), 0 if x == 0 else 1)

    def test_products_spread_over_sums(self):
        # A sum in the field is a plain "one or the other" of digits.
        for m in (1, 2, 3):
            numbers = range(2 ** m)
            made = {(x, y): ask_after(begin(m, 1), mul(x, y))[0][0] for x in numbers for y in numbers}
            for x in numbers:
                for y in numbers:
                    for z in numbers:
                        self.assertEqual(made[x, y ^ z], made[x, y] ^ made[x, z])

    def test_outside_the_field(self):
        for m in range(1, 7):
            top = 2 ** m - 1
            with self.subTest(m=m):
                self.assertEqual(ask_after(begin(m, 1), mul(0, 0), mul(top, 1), mul(1, top)), [[0], [top], [top]])
                wrong = [(-1, 0), (0, -1), (top + 1, 0), (0, top + 1), (-1, top + 1),
                         (LOWEST, 1), (1, LOWEST), (HIGHEST, 1), (1, HIGHEST)]
                told = ask_after(begin(m, 1), *[mul(x, y) for x, y in wrong])
                self.assertEqual(told, [[-22]] * len(wrong))

    def test_the_same_field_for_faint_coins(self):
        self.assertEqual(ask_after(begin(4, 2, 1), mul(2, 8), mul(16, 1), power(2, 4)), [[3], [-22], [3]])


class PowTest(unittest.TestCase):
    def test_by_hand(self):
        self.assertEqual(ask_after(begin(3, 1), power(2, 1), power(2, 2), power(2, 3), power(2, 7), power(3, 2)),
                         [[2], [4], [3], [1], [5]])

    def test_to_the_power_of_0(self):
        for m in range(1, 7):
            told = ask_many(begin(m, 1), [power(x, 0) for x in range(2 ** m)])
            self.assertEqual(told, [[1]] * 2 ** m)

    def test_0_to_a_power(self):
        self.assertEqual(ask_after(begin(6, 1), power(0, 0), power(0, 1), power(0, 100)), [[1], [0], [0]])

    def test_every_power(self):
        for m in range(1, 7):
            pairs = [(x, e) for x in range(2 ** m) for e in range(101)]
            told = ask_many(begin(m, 1), [power(x, e) for x, e in pairs])
            self.assertEqual(told, [[plain.power(m, x, e)] for x, e in pairs])

    def test_wrong(self):
        for m in range(1, 7):
            top = 2 ** m - 1
            wrong = [(-1, 1), (top + 1, 1), (1, -1), (1, 101), (-1, -1), (top + 1, 101), (0, -1), (0, 101),
                     (LOWEST, 1), (HIGHEST, 1), (1, LOWEST), (1, HIGHEST)]
            with self.subTest(m=m):
                told = ask_after(begin(m, 1), *[power(x, e) for x, e in wrong])
                self.assertEqual(told, [[-22]] * len(wrong))
                self.assertEqual(ask_after(begin(m, 1), power(1, 100), power(top, 1)), [[1], [top]])
