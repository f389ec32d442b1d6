"""The field, the coins and the terms once more, reckoned in another way than the program does."""

import itertools
import math
from fractions import Fraction

POLYNOMIALS = {1: 3, 2: 7, 3: 11, 4: 19, 5: 37, 6: 67}


def product(m, x, y):
    """Doubles x step by step, brought down at once, and adds where y has a digit."""
    total = 0
    while y:
        if y % 2:
            total ^= x
        y //= 2
        x *= 2
        if x >= 2 ** m:
            x ^= POLYNOMIALS[m]
    return total


def power(m, x, e):
    """By squares; to the power of 0 it is 1."""
    if e == 0:
        return 1
    half = power(m, x, e // 2)
    square = product(m, half, half)
    return product(m, square, x) if e % 2 else square


def numbers(m, k, seed):
    return [seed >> (m * place) & (2 ** m - 1) for place in range(k)]


def coin_by_k(m, k, seed, i):
    """From the last number down: times i, and the one before it."""
    total = 0
    for number in reversed(numbers(m, k, seed)):
        total = product(m, total, i) ^ number
    return total % 2


def coin_faint(m, seed, i):
    first, second = numbers(m, 2, seed)
    return bin(power(m, first, i) & second).count("1") % 2


def row(m, k, f, seed):
    if f:
        return [coin_faint(m, seed, i) for i in range(2 ** m)]
    return [coin_by_k(m, k, seed, i) for i in range(2 ** m)]


def rows(m, k, f):
    return [row(m, k, f, seed) for seed in range(2 ** (m * k))]


def is_so(term, row):
    """Of a term that is ("all", w, lie) or ("many", w, t, coins)."""
    if term[0] == "all":
        return all((2 * i + 1 in term[2]) <= side and (2 * i in term[2]) <= 1 - side for i, side in enumerate(row))
    return len([i for i in term[3] if row[i] == 1]) >= term[2]


def coins_of(term):
    return sorted({told // 2 for told in term[2]}) if term[0] == "all" else term[3]


def every_way(coins):
    return [list(way) for way in itertools.product((0, 1), repeat=coins)]


def true_chance(term):
    """Of each coin by itself, or by how many choices of that many coins there are."""
    looked = len(coins_of(term))
    if term[0] == "all":
        both = [told for told in term[2] if told ^ 1 in term[2]]
        return Fraction(0) if both else Fraction(1, 2 ** looked)
    fewer = sum(math.comb(looked, ones) for ones in range(min(term[2], looked + 1)))
    return 1 - Fraction(fewer, 2 ** looked)


def chance(term, rows):
    return Fraction(len([row for row in rows if is_so(term, row)]), len(rows))


def worth(terms, row):
    return sum(term[1] for term in terms if is_so(term, row))


def true_mean(terms):
    return sum((term[1] * true_chance(term) for term in terms), Fraction(0))


def mean(terms, rows):
    return Fraction(sum(worth(terms, row) for row in rows), len(rows))


def best(terms, rows, much):
    """Seeds in the order of what their coins come to, then of their numbers: the first one."""
    found, seed = min((-worth(terms, row) if much else worth(terms, row), seed) for seed, row in enumerate(rows))
    return [seed, -found if much else found]


def told(fraction):
    return [fraction.numerator, fraction.denominator]
