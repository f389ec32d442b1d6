"""What one line's object keeps, and what it answers to each call."""

from fewcoins.coins import Coins

BEGIN = 0
MUL = 1
POW = 2
COIN = 3
ROW = 4
COUNT = 5
ODDS = 6
ALL = 7

NONE_SUCH = -2
NOT_BEGUN = -11
WRONG = -22
FULL = -28

MOST_DIGITS = 6
MOST_FAINT_DIGITS = 4
MOST_SEED_DIGITS = 10
MOST_POWER = 100
MOST_WEIGHT = 100
MOST_TERMS = 12
MOST_LIE = 20


class NotBuilt(Exception):
    pass


def can_begin(m, k, f):
    if m < 1 or m > MOST_DIGITS or k < 1 or m * k > MOST_SEED_DIGITS:
        return False
    if f == 1:
        return k == 2 and m <= MOST_FAINT_DIGITS
    return f == 0


def is_weight(w):
    return abs(w) <= MOST_WEIGHT


def answer_mul(coins, x, y):
    field = coins.field
    if not field.holds(x) or not field.holds(y):
        return [WRONG]
    return [field.product(x, y)]


def answer_pow(coins, x, e):
    if not coins.field.holds(x) or e < 0 or e > MOST_POWER:
        return [WRONG]
    return [coins.field.power(x, e)]


def answer_coin(coins, s, i):
    if not coins.has_seed(s) or not coins.has_coin(i):
        return [NONE_SUCH]
    return [coins.rows[s][i]]


def answer_row(coins, s):
    if not coins.has_seed(s):
        return [NONE_SUCH]
    return [coins.how_many] + coins.rows[s]


def answer_count(coins, row, lie):
    if not coins.are_rising(row) or len(lie) != len(row):
        return [WRONG]
    for side in lie:
        if side != 0 and side != 1:
            return [WRONG]
    return [coins.seeds_lying_so(row, lie), coins.seeds]


def answer_odds(coins, row):
    if not coins.are_rising(row):
        return [WRONG]
    return [coins.seeds_with_odd(row), coins.seeds]


def can_lie(coins, lie):
    if len(lie) < 1 or len(lie) > MOST_LIE:
        return False
    for told in lie:
        if told < 0 or told >= 2 * coins.how_many:
            return False
    return True


class Line:
    def __init__(self):
        self.coins = None
        self.terms = []

    def answer(self, call):
        numbers = call.numbers
        if call.kind == BEGIN:
            return self.answer_begin(numbers[0], numbers[1], numbers[2])
        if self.coins is None:
            return [NOT_BEGUN]
        if call.kind == MUL:
            return answer_mul(self.coins, numbers[0], numbers[1])
        if call.kind == POW:
            return answer_pow(self.coins, numbers[0], numbers[1])
        if call.kind == COIN:
            return answer_coin(self.coins, numbers[0], numbers[1])
        if call.kind == ROW:
            return answer_row(self.coins, numbers[0])
        if call.kind == COUNT:
            return answer_count(self.coins, call.rows[0], call.rows[1])
        if call.kind == ODDS:
            return answer_odds(self.coins, call.rows[0])
        if call.kind == ALL:
            return self.answer_all(numbers[0], call.rows[0])
        raise NotBuilt("this call is not built yet")

    def answer_begin(self, m, k, f):
        if not can_begin(m, k, f):
            return [WRONG]
        self.coins = Coins(m, k, f == 1)
        self.terms = []
        return [self.coins.seeds]

    def answer_all(self, w, lie):
        if not is_weight(w) or not can_lie(self.coins, lie):
            return [WRONG]
        if len(self.terms) == MOST_TERMS:
            return [FULL]
        self.terms.append((w, lie))
        return [len(self.terms) - 1]
