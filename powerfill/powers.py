"""Finds the most general way to fill the places of equations between products of powers.

Within this file a product is one list of 32 exponents: its 8 marks', then its 24 places'.
A filling is a list of such products, one for each of the first n places.
"""

MARKS = 8
PLACES = 24
WIDTH = 32
WRITTEN_WIDTH = 34
MOST_EQUATIONS = 256
MOST_GIVEN = 1048576
MOST_REACHED = 1073741824


def read_products(e):
    products = []
    for number in range(e[0]):
        start = 1 + WRITTEN_WIDTH * number
        marks = e[start + 1:start + 1 + MARKS]
        places = e[start + 2 + MARKS:start + WRITTEN_WIDTH]
        products.append(marks + places)
    return products


def write_filling(filling):
    written = [len(filling)]
    for product in filling:
        written = written + [MARKS] + product[:MARKS] + [PLACES] + product[MARKS:]
    return written


def is_beyond(product, most):
    return max(product) > most or min(product) < -most


def is_refused(n, equations):
    if len(equations) > MOST_EQUATIONS or n > PLACES:
        return True
    for equation in equations:
        if is_beyond(equation, MOST_GIVEN) or any(equation[MARKS + n:]):
            return True
    return False


def place_itself(place):
    product = [0] * WIDTH
    product[MARKS + place] = 1
    return product


def fill_in(product, filling):
    filled = product[:MARKS] + [0] * PLACES
    for place, given in enumerate(filling):
        power = product[MARKS + place]
        filled = [x + power * y for x, y in zip(filled, given)]
    return filled


def nearest_place(r):
    nearest = None
    for q in range(MARKS, WIDTH):
        if r[q] != 0 and (nearest is None or abs(r[q]) < abs(r[nearest])):
            nearest = q
    return nearest


def has_other_place(r, p):
    return any([r[q] != 0 for q in range(MARKS, WIDTH) if q != p])


def reducing_product(r, p):
    a = r[p]
    reducing = [-(x // a) for x in r]
    reducing[p] = 1
    return reducing


def replace_place(product, p, other):
    power = product[p]
    replaced = [x + power * y for x, y in zip(product, other)]
    # p itself is taken out, so only what the other product has of it stays.
    replaced[p] = power * other[p]
    return replaced


def replace_in_filling(filling, p, other):
    for place in range(len(filling)):
        filling[place] = replace_place(filling[place], p, other)


# Changes the filling so that the equation comes to nothing, and answers 0, -61 or -75.
def solve_equation(equation, filling):
    r = fill_in(equation, filling)
    # Told ahead of -61: where both are due at one moment, -75 is the answer.
    if is_beyond(r, MOST_REACHED):
        return -75
    while any(r[MARKS:]):
        p = nearest_place(r)
        reducing = reducing_product(r, p)
        replace_in_filling(filling, p, reducing)
        # From here on r stays within the bound: what is left over is nearer to 0 than a.
        r = replace_place(r, p, reducing)
        if any([is_beyond(given, MOST_REACHED) for given in filling]):
            return -75
        if not has_other_place(r, p):
            if any(r[:MARKS]):
                return -61
            replace_in_filling(filling, p, [0] * WIDTH)
            return 0
    return -61 if any(r) else 0


def pw_solve(n, e):
    equations = read_products(e)
    if is_refused(n, equations):
        return [0, -22]
    filling = [place_itself(place) for place in range(n)]
    for at, equation in enumerate(equations):
        answered = solve_equation(equation, filling)
        if answered != 0:
            return [1, answered, at]
    return [2] + write_filling(filling)
