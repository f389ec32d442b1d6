"""What one line's object keeps, and what it answers to each call."""

from fewcoins.coins import Coins
from fewcoins.terms import all_term, many_term, seeds_chance, seeds_mean, true_chance, true_mean, worth_of

# The calls' numbers.
BEGIN = 0
MUL = 1
POW = 2
COIN = 3
ROW = 4
COUNT = 5
ODDS = 6
ALL = 7
MANY = 8
DROP = 9
WANT = 10
MEANS = 11
WORTH = 12
BEST = 13
CHANCES = 14
SIZE = 15

NONE_SUCH = -2
NOT_BEGUN = -11
WRONG = -22
FULL = -28

MOST_DIGITS = 6
MOST_FAINT_DIGITS = 4
MOST_SEED_DIGITS = 10
MOST_POWER = 100
MOST_WEIGHT = 100
MOST_TERMS = 12
MOST_LIE = 20
MOST_ONES = 20


def can_begin(m, k, f):
    if m < 1 or m > MOST_DIGITS or k < 1 or m * k > MOST_SEED_DIGITS:
        return False
    if f == 1:
        return k == 2 and m <= MOST_FAINT_DIGITS
    return f == 0


def is_weight(w):
    return abs(w) <= MOST_WEIGHT


def answer_mul(coins, x, y):
    field = coins.field
    if not field.holds(x) or not field.holds(y):
        return [WRONG]
    return [field.product(x, y)]


def answer_pow(coins, x, e):
    if not coins.field.holds(x) or e < 0 or e > MOST_POWER:
        return [WRONG]
    return [coins.field.power(x, e)]


def answer_coin(coins, s, i):
    if not coins.has_seed(s) or not coins.has_coin(i):
        return [NONE_SUCH]
    return [coins.rows[s][i]]


def answer_row(coins, s):
    if not coins.has_seed(s):
        return [NONE_SUCH]
    return [coins.how_many] + coins.rows[s]


def answer_count(coins, row, lie):
    if not coins.are_rising(row) or len(lie) != len(row):
        return [WRONG]
    for side in lie:
        if side != 0 and side != 1:
            return [WRONG]
    return [coins.seeds_lying_so(row, lie), coins.seeds]


def answer_odds(coins, row):
    if not coins.are_rising(row):
        return [WRONG]
    return [coins.seeds_with_odd(row), coins.seeds]


def can_lie(coins, lie):
    if len(lie) < 1 or len(lie) > MOST_LIE:
        return False
    for told in lie:
        if told < 0 or told >= 2 * coins.how_many:
            return False
    return True


def can_choose(coins, t, chosen):
    return t >= 0 and t <= MOST_ONES and len(chosen) > 0 and coins.are_rising(chosen)


def answer_of_coins(coins, call):
    numbers = call.numbers
    if call.kind == MUL:
        return answer_mul(coins, numbers[0], numbers[1])
    if call.kind == POW:
        return answer_pow(coins, numbers[0], numbers[1])
    if call.kind == COIN:
        return answer_coin(coins, numbers[0], numbers[1])
    if call.kind == ROW:
        return answer_row(coins, numbers[0])
    if call.kind == COUNT:
        return answer_count(coins, call.rows[0], call.rows[1])
    return answer_odds(coins, call.rows[0])


class Line:
    def __init__(self):
        self.coins = None
        self.terms = []
        self.much = 0

    def answer(self, call):
        if call.kind == BEGIN:
            return self.answer_begin(call.numbers[0], call.numbers[1], call.numbers[2])
        if self.coins is None:
            return [NOT_BEGUN]
        if call.kind < ALL:
            return answer_of_coins(self.coins, call)
        if call.kind < MEANS:
            return self.answer_change(call)
        return self.answer_look(call)

    def answer_change(self, call):
        numbers = call.numbers
        if call.kind == ALL:
            return self.answer_all(numbers[0], call.rows[0])
        if call.kind == MANY:
            return self.answer_many(numbers[0], numbers[1], call.rows[0])
        if call.kind == DROP:
            return self.answer_drop(numbers[0])
        return self.answer_want(numbers[0])

    def answer_look(self, call):
        if call.kind == MEANS:
            return self.answer_means()
        if call.kind == WORTH:
            return self.answer_worth(call.numbers[0])
        if call.kind == BEST:
            return self.answer_best()
        if call.kind == CHANCES:
            return self.answer_chances(call.numbers[0])
        return [self.coins.how_many, self.coins.seeds, len(self.terms)]

    def answer_begin(self, m, k, f):
        if not can_begin(m, k, f):
            return [WRONG]
        self.coins = Coins(m, k, f == 1)
        self.terms = []
        self.much = 0
        return [self.coins.seeds]

    def is_full(self):
        return len(self.terms) == MOST_TERMS

    def has_term(self, j):
        return j >= 0 and j < len(self.terms)

    def answer_all(self, w, lie):
        if not is_weight(w) or not can_lie(self.coins, lie):
            return [WRONG]
        if self.is_full():
            return [FULL]
        self.terms.append(all_term(self.coins, w, lie))
        return [len(self.terms) - 1]

    def answer_many(self, w, t, chosen):
        if not is_weight(w) or not can_choose(self.coins, t, chosen):
            return [WRONG]
        if self.is_full():
            return [FULL]
        self.terms.append(many_term(self.coins, w, t, chosen))
        return [len(self.terms) - 1]

    def answer_drop(self, j):
        if not self.has_term(j):
            return [NONE_SUCH]
        self.terms.pop(j)
        return [len(self.terms)]

    def answer_want(self, v):
        if v != 0 and v != 1:
            return [WRONG]
        before = self.much
        self.much = v
        return [before]

    def answer_means(self):
        of_true = true_mean(self.coins, self.terms)
        of_seeds = seeds_mean(self.coins, self.terms)
        same = 1 if of_true == of_seeds else 0
        return [same] + of_true + of_seeds

    def answer_worth(self, s):
        if not self.coins.has_seed(s):
            return [NONE_SUCH]
        return [0, worth_of(self.terms, s)]

    def answer_best(self):
        worths = [worth_of(self.terms, s) for s in range(self.coins.seeds)]
        best = max(worths) if self.much == 1 else min(worths)
        # Of like seeds the first is asked for, and index finds just that one.
        return [worths.index(best), best]

    def answer_chances(self, j):
        if not self.has_term(j):
            return [NONE_SUCH]
        term = self.terms[j]
        return [term.looks_at] + true_chance(self.coins, term) + seeds_chance(self.coins, term)
