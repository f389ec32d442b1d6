"""Builds lines of calls, and splits what is answered call by call."""

from fewcoins.seeds import answers

MOST_CALLS = 60
LOWEST = -2147483648
HIGHEST = 2147483647

# Every m and k that a begin takes, coins k by k.
PLAIN = [(m, k) for m in range(1, 7) for k in range(1, 11) if m * k <= 10]
# Every m that a begin takes, faint coins.
FAINT = [1, 2, 3, 4]
# Every m, k and f that a begin takes.
KINDS = [(m, k, 0) for m, k in PLAIN] + [(m, 2, 1) for m in FAINT]


def row_of(numbers):
    return [len(numbers)] + list(numbers)


def begin(m, k, f=0):
    return [0, m, k, f]


def mul(x, y):
    return [1, x, y]


def power(x, e):
    return [2, x, e]


def coin(s, i):
    return [3, s, i]


def row(s):
    return [4, s]


def count(coins, lie):
    return [5] + row_of(coins) + row_of(lie)


def odds(coins):
    return [6] + row_of(coins)


def term_all(w, lie):
    return [7, w] + row_of(lie)


def term_many(w, t, coins):
    return [8, w, t] + row_of(coins)


def drop(j):
    return [9, j]


def want(v):
    return [10, v]


def means():
    return [11]


def worth(s):
    return [12, s]


def best():
    return [13]


def chances(j):
    return [14, j]


def size():
    return [15]


def call_of(term):
    """The call that makes this term: ("all", w, lie) or ("many", w, t, coins)."""
    return term_all(*term[1:]) if term[0] == "all" else term_many(*term[1:])


def calls_of(terms):
    return [call_of(term) for term in terms]


def drawn_term(draw, coins, most):
    """A term that looks at no more coins than most."""
    chosen = sorted(draw.sample(range(coins), draw.randrange(1, min(most, coins, 20) + 1)))
    w = draw.randrange(-100, 101)
    if draw.random() < 0.5:
        return ("all", w, [2 * i + draw.randrange(2) for i in chosen])
    return ("many", w, draw.randrange(0, len(chosen) + 2), chosen)


def joined(calls):
    return [number for call in calls for number in call]


def split(told):
    parts = []
    place = 0
    while place < len(told):
        behind = place + 1 + told[place]
        parts.append(told[place + 1:behind])
        place = behind
    return parts


def ask(*calls):
    """What is answered of each of these calls, on one new object."""
    assert 1 <= len(calls) <= MOST_CALLS
    told = split(answers(joined(calls)))
    assert len(told) == len(calls)
    return told


def ask_after(start, *calls):
    """What is answered of the calls behind a begin that is good."""
    told = ask(start, *calls)
    assert told[0][0] > 0
    return told[1:]


def ask_many(start, calls):
    """As ask_after, of any number of calls that change nothing: on as many objects as they need."""
    told = []
    for place in range(0, len(calls), MOST_CALLS - 1):
        told.extend(ask_after(start, *calls[place:place + MOST_CALLS - 1]))
    return told
