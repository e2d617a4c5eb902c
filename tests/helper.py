"""What the tests share: products, how they are written out, and integer arithmetic of the tests' own."""

from fractions import Fraction

from powerfill.powers import pw_solve

MARKS = 8
PLACES = 24
BOUND = 2 ** 30
GIVEN = 2 ** 20
REFUSED = [0, -22]


def product(places=None, marks=None):
    """A product as (marks, places), from dicts or lists of its exponents."""
    return exponents(marks, MARKS), exponents(places, PLACES)


def exponents(given, width):
    row = [0] * width
    if isinstance(given, dict):
        for k, x in given.items():
            row[k] = x
    else:
        for k, x in enumerate(given or []):
            row[k] = x
    return row


def write(products):
    """The list e for some products."""
    written = [len(products)]
    for marks, places in products:
        written += [8] + marks + [24] + places
    return written


def read(written):
    """The products of a list e, with its counts checked on the way."""
    products = []
    at = 1
    while at < len(written):
        if written[at] != 8 or written[at + 9] != 24 or at + 34 > len(written):
            raise ValueError("not written out as a row of products")
        products.append((written[at + 1:at + 9], written[at + 10:at + 34]))
        at += 34
    if len(products) != written[0]:
        raise ValueError("the count is off")
    return products


def solve(n, products):
    return pw_solve(n, write(products))


def answer(products):
    """What pw_solve tells where it answers 0 and these are what the places are filled with."""
    return [2] + write(products)


def unsolvable(at):
    return [1, -61, at]


def too_great(at):
    return [1, -75, at]


def times(one, other, power=1):
    """One product times another one, raised to a power."""
    return tuple([x + power * y for x, y in zip(a, b)] for a, b in zip(one, other))


def fill(given, filling):
    """A product filled in: its marks, times what each place is given, raised to the place's exponent."""
    filled = product(marks=given[0])
    for k, power in enumerate(given[1]):
        if power != 0:
            filled = times(filled, filling[k], power)
    return filled


NOTHING = product()


class Numbers:
    """A fixed row of numbers that looks mixed, the same at each run on each Python."""

    def __init__(self, start):
        self.state = start

    def below(self, most):
        self.state = (self.state * 6364136223846793005 + 1442695040888963407) % 2 ** 64
        return (self.state >> 33) % most

    def between(self, low, high):
        return low + self.below(high - low + 1)

    def exponents(self, width, most, sparse):
        """Exponents of which about one in `sparse` isn't 0."""
        return [self.between(-most, most) if self.below(sparse) == 0 else 0 for k in range(width)]

    def product(self, n, most, sparse=2, marks=2):
        return product(self.exponents(n, most, sparse), self.exponents(marks, most, 2))

    def system(self, n, m, most, sparse=2, marks=2):
        return [self.product(n, most, sparse, marks) for k in range(m)]


def rank(rows):
    """The rank over fractions."""
    rows = [[Fraction(x) for x in row] for row in rows]
    found = 0
    for column in range(len(rows[0]) if rows else 0):
        pivot = next((k for k in range(found, len(rows)) if rows[k][column] != 0), None)
        if pivot is None:
            continue
        rows[found], rows[pivot] = rows[pivot], rows[found]
        for k in range(found + 1, len(rows)):
            factor = rows[k][column] / rows[found][column]
            rows[k] = [x - factor * y for x, y in zip(rows[k], rows[found])]
        found += 1
    return found


def basis(vectors):
    """Vectors in steps (each begins further on than the one before) that make the same lattice."""
    vectors = [list(v) for v in vectors if any(v)]
    steps = []
    column = 0
    while vectors:
        heads = [v for v in vectors if v[column] != 0]
        rest = [v for v in vectors if v[column] == 0]
        while len(heads) > 1:
            heads.sort(key=lambda v: abs(v[column]))
            least = heads[0]
            reduced = [[x - (v[column] // least[column]) * y for x, y in zip(v, least)] for v in heads[1:]]
            heads = [least] + [v for v in reduced if v[column] != 0]
            rest += [v for v in reduced if v[column] == 0 and any(v)]
        steps += heads
        vectors = rest
        column += 1
    return steps


def in_lattice(steps, vector):
    """Whether a vector is a sum of whole multiples of vectors that basis() gave."""
    left = list(vector)
    for step in steps:
        column = next(k for k, x in enumerate(step) if x != 0)
        if left[column] % step[column] != 0:
            return False
        factor = left[column] // step[column]
        left = [x - factor * y for x, y in zip(left, step)]
    return not any(left)


def solvable(n, products):
    """Whether some filling solves all of these: each mark's exponents must lie in the lattice of the places'."""
    columns = basis([[places[k] for marks, places in products] for k in range(n)])
    return all(in_lattice(columns, [marks[k] for marks, places in products]) for k in range(MARKS))


def kernel(n, products):
    """A basis of all whole-number ways to choose powers of the n places that every equation takes to nothing."""
    rows = [[places[k] for marks, places in products] + [int(k == j) for j in range(n)] for k in range(n)]
    m = len(products)
    return [step[m:] for step in basis(rows) if not any(step[:m])]
