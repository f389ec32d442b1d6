"""Fractions, told by two numbers with nothing in common."""


def greatest_common(x, y):
    greater = x
    smaller = y
    while smaller > 0:
        rest = greater % smaller
        greater = smaller
        smaller = rest
    return greater


def as_fraction(upper, lower):
    # What 0 and the lower number have in common is the lower number itself: so 0 is 0 1.
    common = greatest_common(abs(upper), lower)
    return [upper // common, lower // common]
