"""The coins that each seed makes, and counts over all seeds."""

from fewcoins.field import Field


def seed_numbers(field, k, seed):
    numbers = []
    rest = seed
    for place in range(k):
        numbers.append(rest % field.size)
        rest = rest // field.size
    return numbers


def odd_ones(number):
    odd = 0
    rest = number
    while rest > 0:
        odd = odd ^ (rest & 1)
        rest = rest >> 1
    return odd


def first_powers(field, x, k):
    return [field.power(x, e) for e in range(k)]


def plain_coin(field, numbers, powers):
    total = 0
    for place, number in enumerate(numbers):
        total = total ^ field.product(number, powers[place])
    return total & 1


def plain_rows(field, k, seeds):
    powers = [first_powers(field, i, k) for i in range(field.size)]
    rows = []
    for seed in range(seeds):
        numbers = seed_numbers(field, k, seed)
        rows.append([plain_coin(field, numbers, powers[i]) for i in range(field.size)])
    return rows


def faint_row(field, numbers):
    powers = first_powers(field, numbers[0], field.size)
    return [odd_ones(power & numbers[1]) for power in powers]


def faint_rows(field, k, seeds):
    return [faint_row(field, seed_numbers(field, k, seed)) for seed in range(seeds)]


def lies_so(row, coins, lie):
    for place, coin in enumerate(coins):
        if row[coin] != lie[place]:
            return False
    return True


class Coins:
    def __init__(self, m, k, faint):
        self.field = Field(m)
        self.how_many = self.field.size
        self.seeds = 1 << (m * k)
        # There are at most 1024 seeds: their coins are made once, and each call only looks at them.
        if faint:
            self.rows = faint_rows(self.field, k, self.seeds)
        else:
            self.rows = plain_rows(self.field, k, self.seeds)

    def has_seed(self, s):
        return s >= 0 and s < self.seeds

    def has_coin(self, i):
        return i >= 0 and i < self.how_many

    def are_rising(self, coins):
        last = -1
        for coin in coins:
            if coin <= last or not self.has_coin(coin):
                return False
            last = coin
        return True

    def seeds_lying_so(self, coins, lie):
        return len([row for row in self.rows if lies_so(row, coins, lie)])

    def seeds_with_odd(self, coins):
        return sum([sum([row[coin] for coin in coins]) % 2 for row in self.rows])
