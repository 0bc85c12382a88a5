"""Numbers modulo p, rows of them, and the spaces that rows span."""

P = 2147483647


def is_number(x):
    return 0 <= x < P


def inverse(x):
    """What x, which isn't 0, gives 1 with when multiplied: by Fermat, x to the power of P - 2."""
    power = 1
    square = x
    exponent = P - 2
    while exponent > 0:
        if exponent % 2 == 1:
            power = power * square % P
        square = square * square % P
        exponent = exponent // 2
    return power


def multiple(x, row):
    return [x * y % P for y in row]


def difference(row, other):
    return [(x - y) % P for x, y in zip(row, other)]


def sum_of_products(row, other):
    return sum([x * y for x, y in zip(row, other)]) % P


def sum_of_multiples(factors, rows, width):
    """The sum of the rows, each times its factor; the width is that of the sum of no rows too."""
    sums = [0] * width
    for x, row in zip(factors, rows):
        # Most factors of most machines are 0, and these rows would take as long.
        if x != 0:
            sums = [y + x * z for y, z in zip(sums, row)]
    return [y % P for y in sums]


def place_of_first_number(row):
    """Where the first number that isn't 0 stands, or None."""
    for k, x in enumerate(row):
        if x != 0:
            return k
    return None


class Space:
    """All sums of multiples of some rows.

    The rows kept here have 1 at their own pivot and 0 at the others' pivots. So what
    stands at the pivots of a row of the space are its factors in the sum of the kept rows.
    """

    def __init__(self):
        self.rows = []
        self.pivots = []

    def factors(self, row):
        return [row[pivot] for pivot in self.pivots]

    def rest(self, row):
        """The row without the one of the space that has the same at the pivots."""
        return difference(row, sum_of_multiples(self.factors(row), self.rows, len(row)))

    def grows_by(self, row):
        """Takes the row into the space; whether it wasn't there before."""
        rest = self.rest(row)
        pivot = place_of_first_number(rest)
        if pivot is None:
            return False
        fresh = multiple(inverse(rest[pivot]), rest)
        self.rows = [difference(own, multiple(own[pivot], fresh)) for own in self.rows]
        self.rows.append(fresh)
        self.pivots.append(pivot)
        return True
