"""The field of 2 to the power of m numbers: products and powers."""

# What a product is brought down by, for m 1, 2, 3, 4, 5, 6.
DIVISORS = (3, 7, 11, 19, 37, 67)


def polynomial_product(x, y, m):
    total = 0
    for place in range(m):
        if (y >> place) & 1 == 1:
            total = total ^ (x << place)
    return total


def brought_down(number, m):
    divisor = DIVISORS[m - 1]
    rest = number
    while rest.bit_length() > m:
        # The divisor has m + 1 digits: so moved, its highest lies on that of the rest and takes it away.
        rest = rest ^ (divisor << (rest.bit_length() - m - 1))
    return rest


def products_with(x, m):
    return [brought_down(polynomial_product(x, y, m), m) for y in range(1 << m)]


class Field:
    def __init__(self, m):
        self.size = 1 << m
        # All products are kept, as making the seeds' coins asks for each of them many times.
        self.products = [products_with(x, m) for x in range(1 << m)]

    def holds(self, x):
        return x >= 0 and x < self.size

    def product(self, x, y):
        return self.products[x][y]

    def power(self, x, e):
        total = 1
        for step in range(e):
            total = self.product(total, x)
        return total
