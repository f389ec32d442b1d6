"""The field and the coins once more, reckoned in another way than the program does."""

POLYNOMIALS = {1: 3, 2: 7, 3: 11, 4: 19, 5: 37, 6: 67}


def product(m, x, y):
    """Doubles x step by step, brought down at once, and adds where y has a digit."""
    total = 0
    while y:
        if y % 2:
            total ^= x
        y //= 2
        x *= 2
        if x >= 2 ** m:
            x ^= POLYNOMIALS[m]
    return total


def power(m, x, e):
    """By squares; to the power of 0 it is 1."""
    if e == 0:
        return 1
    half = power(m, x, e // 2)
    square = product(m, half, half)
    return product(m, square, x) if e % 2 else square


def numbers(m, k, seed):
    return [seed >> (m * place) & (2 ** m - 1) for place in range(k)]


def coin_by_k(m, k, seed, i):
    """From the last number down: times i, and the one before it."""
    total = 0
    for number in reversed(numbers(m, k, seed)):
        total = product(m, total, i) ^ number
    return total % 2


def coin_faint(m, seed, i):
    first, second = numbers(m, 2, seed)
    return bin(power(m, first, i) & second).count("1") % 2


def row(m, k, f, seed):
    if f:
        return [coin_faint(m, seed, i) for i in range(2 ** m)]
    return [coin_by_k(m, k, seed, i) for i in range(2 ** m)]


def rows(m, k, f):
    return [row(m, k, f, seed) for seed in range(2 ** (m * k))]
