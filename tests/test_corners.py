"""The corners that the document names."""

import unittest

from tests.helper import GIVEN, NOTHING, REFUSED, Numbers, answer, product, solve, unsolvable


def turned(given):
    return [-x for x in given[0]], [-x for x in given[1]]


class Corners(unittest.TestCase):
    def test_no_equation(self):
        for n in (0, 1, 7, 24):
            self.assertEqual(solve(n, []), answer([product({k: 1}) for k in range(n)]))

    def test_no_place(self):
        self.assertEqual(solve(0, []), answer([]))
        self.assertEqual(solve(0, [NOTHING] * 256), answer([]))
        self.assertEqual(solve(0, [NOTHING, product(marks=[1])]), unsolvable(1))
        self.assertEqual(solve(0, [product([1])]), REFUSED)

    def test_2_p_and_a_mark(self):
        self.assertEqual(solve(1, [product([2], [1])]), unsolvable(0))
        self.assertEqual(solve(1, [product([2], [2])]), answer([product(marks=[-1])]))

    def test_2_p_and_3_q(self):
        self.assertEqual(solve(2, [product([2, 3])]), answer([product([3]), product([-2])]))

    def test_6_p_10_q_and_15_r(self):
        self.assertEqual(solve(3, [product([6, 10, 15])]),
                         answer([product([5, 0, -5]), product([0, 0, -3]), product([-2, 0, 4])]))

    def test_6_p_10_q_and_15_r_with_any_marks(self):
        # 6, 10 and 15 have no divisor in common, so whatever mark there is can be made.
        for x in (1, -1, 7, -29):
            self.assertEqual(solve(3, [product([6, 10, 15], [x])])[0], 2)

    def test_all_signs_turned(self):
        numbers = Numbers(11)
        for k in range(300):
            n = numbers.between(1, 5)
            system = numbers.system(n, numbers.between(1, 4), 9)
            first = solve(n, system)
            self.assertEqual(solve(n, [turned(given) for given in system]), first)
            self.assertEqual(solve(n, [turned(system[0])] + system[1:]), first)

    def test_the_same_equation_behind_with_all_signs_turned(self):
        numbers = Numbers(12)
        for k in range(300):
            n = numbers.between(1, 5)
            system = numbers.system(n, numbers.between(1, 4), 9)
            self.assertEqual(solve(n, system + [turned(given) for given in system]), solve(n, system))

    def test_a_place_that_is_in_no_equation(self):
        self.assertEqual(solve(3, [product([2, 0, 3])]), answer([product([3]), product([0, 1]), product([-2])]))
        numbers = Numbers(13)
        for k in range(200):
            system = numbers.system(4, 3, 6)
            told = solve(24, system)
            if told[0] == 2:
                for place in range(4, 24):
                    self.assertEqual(told[2 + 34 * place:36 + 34 * place], answer([product({place: 1})])[2:])

    def test_places_at_their_bounds(self):
        self.assertEqual(solve(2, [product([GIVEN, -GIVEN])]), answer([product([0, 1]), product([0, 1])]))
        self.assertEqual(solve(2, [product([GIVEN, GIVEN])]), answer([product([0, -1]), product([0, 1])]))
        self.assertEqual(solve(2, [product([GIVEN, GIVEN - 1])]),
                         answer([product([0, 1 - GIVEN]), product([0, GIVEN])]))
        self.assertEqual(solve(2, [product([-GIVEN, 1])]), answer([product([1]), product([GIVEN])]))

    def test_marks_at_their_bounds(self):
        self.assertEqual(solve(1, [product([1], [GIVEN, -GIVEN])]), answer([product(marks=[-GIVEN, GIVEN])]))
        self.assertEqual(solve(1, [product([GIVEN], [GIVEN, -GIVEN])]), answer([product(marks=[-1, 1])]))
        self.assertEqual(solve(1, [product([GIVEN], [GIVEN - 1])]), unsolvable(0))

    def test_all_at_their_bounds(self):
        for x in (GIVEN, -GIVEN):
            filled = [product({k: -1 for k in range(1, 24)}, [-1] * 8)] + [product({k: 1}) for k in range(1, 24)]
            self.assertEqual(solve(24, [product([x] * 24, [x] * 8)] * 256), answer(filled))


if __name__ == "__main__":
    unittest.main()
