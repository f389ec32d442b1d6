"""Terms: what is counted of coins, of true ones and of those that seeds make."""

from fewcoins.fraction import as_fraction


class Term:
    def __init__(self, weight, looks_at, ways, so):
        self.weight = weight
        # At how many different coins it looks.
        self.looks_at = looks_at
        # In how many of all the ways in which all coins may lie it's so: true coins lie in each as likely.
        self.ways = ways
        # For each seed, 1 if it's so of its coins: kept, as a term never changes and is looked at often.
        self.so = so


def is_all(row, lie):
    for told in lie:
        if row[told // 2] != told % 2:
            return 0
    return 1


def is_many(row, chosen, t):
    return 1 if sum([row[coin] for coin in chosen]) >= t else 0


def ways_by_ones(how_many):
    # Coin by coin: a way with so many ones is one with as many and a 0 more, or with one fewer and a 1 more.
    ways = [1]
    for coin in range(how_many):
        ways = [one_fewer + as_many for one_fewer, as_many in zip([0] + ways, ways + [0])]
    return ways


def all_term(coins, weight, lie):
    looks_at = len(set([told // 2 for told in lie]))
    # Where there are more different numbers than coins, both are told of one coin.
    ways = 1 if len(set(lie)) == looks_at else 0
    so = [is_all(row, lie) for row in coins.rows]
    return Term(weight, looks_at, ways << (coins.how_many - looks_at), so)


def many_term(coins, weight, t, chosen):
    looks_at = len(chosen)
    ways = sum(ways_by_ones(looks_at)[t:])
    so = [is_many(row, chosen, t) for row in coins.rows]
    return Term(weight, looks_at, ways << (coins.how_many - looks_at), so)


def true_chance(coins, term):
    return as_fraction(term.ways, 1 << coins.how_many)


def seeds_chance(coins, term):
    return as_fraction(sum(term.so), coins.seeds)


def true_mean(coins, terms):
    return as_fraction(sum([term.weight * term.ways for term in terms]), 1 << coins.how_many)


def seeds_mean(coins, terms):
    return as_fraction(sum([term.weight * sum(term.so) for term in terms]), coins.seeds)


def worth_of(terms, s):
    return sum([term.weight * term.so[s] for term in terms])
