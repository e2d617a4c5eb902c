"""Point 1: the refusal -22, each cause by itself and at its bounds."""

import unittest

from tests.helper import (GIVEN, NOTHING, PLACES, REFUSED, answer, product, solve, too_great, unsolvable)


def themselves(n):
    return [product({k: 1}) for k in range(n)]


class HowManyProducts(unittest.TestCase):
    def test_256_are_taken(self):
        self.assertEqual(solve(2, [NOTHING] * 256), answer(themselves(2)))

    def test_257_are_refused(self):
        self.assertEqual(solve(2, [NOTHING] * 257), REFUSED)

    def test_300_are_refused(self):
        self.assertEqual(solve(24, [NOTHING] * 300), REFUSED)

    def test_257_are_refused_though_one_has_no_solution(self):
        self.assertEqual(solve(2, [product(marks=[1])] + [NOTHING] * 256), REFUSED)

    def test_the_last_of_256_counts(self):
        self.assertEqual(solve(1, [NOTHING] * 255 + [product(marks=[1])]), unsolvable(255))


class HowManyPlaces(unittest.TestCase):
    def test_24_are_taken(self):
        self.assertEqual(solve(24, []), answer(themselves(24)))

    def test_25_are_refused(self):
        self.assertEqual(solve(25, []), REFUSED)
        self.assertEqual(solve(25, [product({0: 1})]), REFUSED)

    def test_the_greatest_number_is_refused(self):
        self.assertEqual(solve(2 ** 63 - 1, []), REFUSED)
        self.assertEqual(solve(2 ** 63 - 1, [NOTHING]), REFUSED)


class ExponentsOfMarks(unittest.TestCase):
    def test_at_the_bounds_they_are_taken(self):
        for x in (GIVEN, -GIVEN):
            for k in range(8):
                self.assertEqual(solve(1, [product([1], {k: x})]), answer([product(marks={k: -x})]))

    def test_beyond_the_bounds_they_are_refused(self):
        for x in (GIVEN + 1, -GIVEN - 1, 2 ** 63 - 1, -2 ** 63):
            for k in range(8):
                self.assertEqual(solve(1, [product([1], {k: x})]), REFUSED)

    def test_beyond_the_bounds_in_a_later_equation(self):
        for x in (GIVEN + 1, -GIVEN - 1):
            self.assertEqual(solve(1, [product([1]), NOTHING, product([1], [x])]), REFUSED)


class ExponentsOfPlaces(unittest.TestCase):
    def test_at_the_bounds_they_are_taken(self):
        for x in (GIVEN, -GIVEN):
            for k in range(PLACES):
                filled = themselves(24)
                filled[k] = NOTHING
                self.assertEqual(solve(24, [product({k: x})]), answer(filled))

    def test_beyond_the_bounds_they_are_refused(self):
        for x in (GIVEN + 1, -GIVEN - 1, 2 ** 63 - 1, -2 ** 63):
            for k in range(PLACES):
                self.assertEqual(solve(24, [product({k: x})]), REFUSED)

    def test_beyond_the_bounds_in_a_later_equation(self):
        for x in (GIVEN + 1, -GIVEN - 1):
            self.assertEqual(solve(1, [NOTHING, product([1]), product([x])]), REFUSED)


class PlacesFromNOn(unittest.TestCase):
    def test_the_last_place_below_n_is_taken(self):
        for n in range(1, 25):
            self.assertEqual(solve(n, [product({n - 1: 1})]), answer(themselves(n - 1) + [NOTHING]))

    def test_each_place_from_n_on_is_refused(self):
        for n in range(24):
            for k in range(n, 24):
                self.assertEqual(solve(n, [product({k: 1})]), REFUSED)
                self.assertEqual(solve(n, [product({k: -1})]), REFUSED)

    def test_in_a_later_equation(self):
        self.assertEqual(solve(3, [product([1, 2, 3]), NOTHING, product({23: GIVEN})]), REFUSED)


class BeforeAllElse(unittest.TestCase):
    def test_a_later_equation_is_refused_ahead_of_an_earlier_one_without_solution(self):
        self.assertEqual(solve(1, [product(marks=[1]), product({1: 1})]), REFUSED)
        self.assertEqual(solve(1, [product(marks=[1]), product([GIVEN + 1])]), REFUSED)

    def test_a_later_equation_is_refused_ahead_of_exponents_that_grow_too_great(self):
        growing = [product([1, -GIVEN]), product([0, 1, -GIVEN])]
        self.assertEqual(solve(3, growing), too_great(1))
        self.assertEqual(solve(3, growing + [product([0, 0, 0, 1])]), REFUSED)


if __name__ == "__main__":
    unittest.main()
