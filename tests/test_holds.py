"""What holds, a to d, over many inputs that are made in a fixed way."""

import itertools
import unittest

from tests.helper import (BOUND, GIVEN, MARKS, NOTHING, Numbers, answer, basis, fill, in_lattice, kernel, product, rank,
                          read, solvable, solve, times, too_great, unsolvable)


def systems():
    """Systems of many shapes, as (n, equations)."""
    numbers = Numbers(1)
    for k in range(1500):
        n = numbers.between(0, 6)
        m = numbers.between(0, 5)
        most = (1, 2, 3, 6, 12, 30)[numbers.below(6)]
        yield n, numbers.system(n, m, most, numbers.between(1, 3), numbers.between(0, 2))
    for k in range(60):
        n = numbers.between(7, 24)
        yield n, numbers.system(n, numbers.between(1, 30), 3, 8, 8)
    for k in range(120):
        n = numbers.between(1, 4)
        yield n, numbers.system(n, numbers.between(1, 4), GIVEN, 2, 1)


def solvable_systems():
    """Systems that are made from a filling, so that there is one that solves them."""
    numbers = Numbers(2)
    for k in range(500):
        n = numbers.between(1, 6)
        filling = [product(marks=numbers.exponents(3, 5, 2)) for place in range(n)]
        system = []
        for equation in range(numbers.between(1, 5)):
            places = product(numbers.exponents(n, 5, 2))
            marks = fill(places, filling)[0]
            system.append(product(places[1], [-x for x in marks]))
        yield n, system


def by_the_words(n, system):
    """The promise's words done one by one, with products as dicts that hold no 0."""
    filling = {("place", k): {("place", k): 1} for k in range(n)}
    for at, (marks, places) in enumerate(system):
        equation = {("mark", k): x for k, x in enumerate(marks) if x != 0}
        equation.update({("place", k): x for k, x in enumerate(places) if x != 0})
        r = filled_in(equation, filling)
        if not within(r):
            return too_great(at)
        while True:
            left = sorted((abs(x), q[1]) for q, x in r.items() if q[0] == "place")
            if not left:
                if r:
                    return unsolvable(at)
                break
            p = ("place", left[0][1])
            a = r[p]
            instead = {p: 1}
            for q, x in r.items():
                if q != p:
                    instead[q] = -rounded_down(x, a)
            filling = {k: filled_in(given, {p: instead}) for k, given in filling.items()}
            r = filled_in(r, {p: instead})
            if not within(r) or not all(within(given) for given in filling.values()):
                return too_great(at)
            if list(r) == [p]:
                filling = {k: filled_in(given, {p: {}}) for k, given in filling.items()}
                break
            if not any(q[0] == "place" and q != p for q in r):
                return unsolvable(at)
    return answer([product({q[1]: x for q, x in given.items() if q[0] == "place"},
                           {q[1]: x for q, x in given.items() if q[0] == "mark"}) for given in filling.values()])


def filled_in(given, filling):
    filled = {}
    for q, power in given.items():
        for other, x in filling.get(q, {q: 1}).items():
            filled[other] = filled.get(other, 0) + power * x
    return {q: x for q, x in filled.items() if x != 0}


def within(given):
    return all(-BOUND <= x <= BOUND for x in given.values())


def rounded_down(x, a):
    whole = abs(x) // abs(a)
    if (x < 0) == (a < 0):
        return whole
    return -whole if whole * abs(a) == abs(x) else -whole - 1


class ItSolves(unittest.TestCase):
    def test_each_equation_filled_in_comes_to_nothing(self):
        solved = 0
        for n, system in itertools.chain(systems(), solvable_systems()):
            told = solve(n, system)
            if told[0] == 2:
                solved += 1
                filling = read(told[1:])
                self.assertEqual(len(filling), n)
                for given in system:
                    self.assertEqual(fill(given, filling), NOTHING)
        self.assertGreater(solved, 700)

    def test_what_can_be_solved_is_solved(self):
        for n, system in solvable_systems():
            self.assertIn(solve(n, system)[:2], ([2, n], [1, -75]))


class MostGeneral(unittest.TestCase):
    def test_the_places_make_every_way_to_nothing(self):
        """Two fillings that solve differ by what the places' exponents alone take to nothing, so out is the most
        general one just where it solves and its places make all of that."""
        solved = 0
        for n, system in itertools.chain(systems(), solvable_systems()):
            told = solve(n, system)
            if told[0] == 2 and n > 0:
                solved += 1
                filling = read(told[1:])
                columns = [[places[k] for marks, places in filling] for k in range(24)]
                made = basis(columns)
                for vector in kernel(n, system):
                    self.assertTrue(in_lattice(made, vector))
                self.assertEqual(len([column for column in columns if any(column)]),
                                 n - rank([places[:n] for marks, places in system]))
        self.assertGreater(solved, 600)

    def test_every_small_filling_that_solves_comes_of_it(self):
        numbers = Numbers(3)
        for k in range(60):
            system = numbers.system(2, 1, 4, 1, 1)
            told = solve(2, system)
            for marks in itertools.product(range(-6, 7), repeat=2):
                filling = [product(marks=[x]) for x in marks]
                if fill(system[0], filling) == NOTHING:
                    self.assertEqual(told[0], 2)
                    self.assertTrue(comes_of(read(told[1:]), marks))


def comes_of(out, wanted):
    """Whether some powers of the one mark, put in for the places, make of out the wanted filling."""
    for put in itertools.product(range(-40, 41), repeat=2):
        if all(marks[0] + places[0] * put[0] + places[1] * put[1] == x
               for (marks, places), x in zip(out, wanted)):
            return True
    return False


class NoneSolves(unittest.TestCase):
    def test_61_only_where_none_solves_and_at_the_first_such_equation(self):
        seen = 0
        for n, system in systems():
            told = solve(n, system)
            if told[:2] == [1, -61]:
                seen += 1
                at = told[2]
                self.assertFalse(solvable(n, system[:at + 1]))
                self.assertTrue(solvable(n, system[:at]))
            if told[0] == 2:
                self.assertTrue(solvable(n, system))
        self.assertGreater(seen, 300)


class ToldAgain(unittest.TestCase):
    def test_an_equation_again_behind_the_others(self):
        for n, system in itertools.chain(systems(), solvable_systems()):
            told = solve(n, system)
            for given in system[:3]:
                self.assertEqual(solve(n, system + [given]), told)

    def test_all_equations_again_up_to_256(self):
        for n, system in itertools.islice(solvable_systems(), 40):
            many = (system * 256)[:256]
            self.assertEqual(solve(n, many), solve(n, system))

    def test_an_equation_that_comes_of_the_others(self):
        numbers = Numbers(5)
        for n, system in itertools.chain(itertools.islice(systems(), 600), solvable_systems()):
            made = NOTHING
            for given in system:
                made = times(made, given, numbers.between(-3, 3))
            self.assertEqual(solve(n, system + [made]), solve(n, system))

    def test_an_equation_again_with_exponents_at_the_bounds(self):
        system = [product([1, 0, -GIVEN]), product([0, 1, -GIVEN])]
        made = times(times(NOTHING, product([1]), GIVEN), product([0, 1]), -GIVEN)
        self.assertEqual(solve(3, system + [made]), solve(3, system))


class ByTheWords(unittest.TestCase):
    def test_the_same_numbers_as_the_words_done_one_by_one(self):
        forms = {}
        for n, system in itertools.chain(systems(), solvable_systems()):
            told = solve(n, system)
            self.assertEqual(told, by_the_words(n, system))
            form = told[1] if told[0] == 1 else 0
            forms[form] = forms.get(form, 0) + 1
        for form in (0, -61, -75):
            self.assertGreater(forms[form], 20)


class TheTestsOwn(unittest.TestCase):
    def test_solvable(self):
        self.assertTrue(solvable(1, [product([2], [4])]))
        self.assertFalse(solvable(1, [product([2], [3])]))
        self.assertTrue(solvable(2, [product([2, 3], [1])]))
        self.assertFalse(solvable(2, [product([1, 1], [1]), product([1, -1], [0])]))
        self.assertFalse(solvable(0, [product(marks={MARKS - 1: 1})]))

    def test_kernel(self):
        self.assertEqual([[abs(x) for x in v] for v in kernel(2, [product([2, 3])])], [[3, 2]])
        self.assertEqual(len(kernel(3, [product([6, 10, 15])])), 2)


if __name__ == "__main__":
    unittest.main()
