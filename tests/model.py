"""One object once more, after the words of the document."""

from tests import plain


class Model:
    def __init__(self):
        self.begun = None
        self.terms = []
        self.much = 0

    def rising(self, coins):
        return all(0 <= i < self.coins for i in coins) and all(a < b for a, b in zip(coins, coins[1:]))

    def begin(self, m, k, f):
        good = 1 <= m <= 6 and k >= 1 and m * k <= 10 and f in (0, 1) and not (f == 1 and (k != 2 or m > 4))
        if not good:
            return [-22]
        self.begun, self.terms, self.much = (m, k, f), [], 0
        self.coins = 2 ** m
        self.rows = plain.rows(m, k, f)
        return [len(self.rows)]

    def mul(self, x, y):
        good = 0 <= x < self.coins and 0 <= y < self.coins
        return [plain.product(self.begun[0], x, y)] if good else [-22]

    def power(self, x, e):
        return [plain.power(self.begun[0], x, e)] if 0 <= x < self.coins and 0 <= e <= 100 else [-22]

    def coin(self, s, i):
        return [self.rows[s][i]] if 0 <= s < len(self.rows) and 0 <= i < self.coins else [-2]

    def row(self, s):
        return [self.coins] + self.rows[s] if 0 <= s < len(self.rows) else [-2]

    def count(self, coins, lie):
        if not self.rising(coins) or len(coins) != len(lie) or set(lie) - {0, 1}:
            return [-22]
        return [sum([row[i] for i in coins] == lie for row in self.rows), len(self.rows)]

    def odds(self, coins):
        if not self.rising(coins):
            return [-22]
        return [sum(sum(row[i] for i in coins) % 2 for row in self.rows), len(self.rows)]

    def term_all(self, w, lie):
        if not -100 <= w <= 100 or not 1 <= len(lie) <= 20 or not all(0 <= told < 2 * self.coins for told in lie):
            return [-22]
        return self.one_more(("all", w, lie))

    def term_many(self, w, t, coins):
        if not -100 <= w <= 100 or not coins or not self.rising(coins) or not 0 <= t <= 20:
            return [-22]
        return self.one_more(("many", w, t, coins))

    def one_more(self, term):
        if len(self.terms) == 12:
            return [-28]
        self.terms.append(term)
        return [len(self.terms) - 1]

    def drop(self, j):
        if not 0 <= j < len(self.terms):
            return [-2]
        self.terms = [term for number, term in enumerate(self.terms) if number != j]
        return [len(self.terms)]

    def want(self, v):
        if v not in (0, 1):
            return [-22]
        was, self.much = self.much, v
        return [was]

    def means(self):
        true, made = plain.true_mean(self.terms), plain.mean(self.terms, self.rows)
        return [1 if true == made else 0] + plain.told(true) + plain.told(made)

    def worth(self, s):
        return [0, plain.worth(self.terms, self.rows[s])] if 0 <= s < len(self.rows) else [-2]

    def best(self):
        return plain.best(self.terms, self.rows, self.much)

    def chances(self, j):
        if not 0 <= j < len(self.terms):
            return [-2]
        term = self.terms[j]
        true, made = plain.true_chance(term), plain.chance(term, self.rows)
        return [len(plain.coins_of(term))] + plain.told(true) + plain.told(made)

    def size(self):
        return [self.coins, len(self.rows), len(self.terms)]

    def answer(self, name, *told):
        if name != "begin" and self.begun is None:
            return [-11]
        return getattr(self, name)(*told)
