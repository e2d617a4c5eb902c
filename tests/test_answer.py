"""Point 3: the answer, number by number."""

import unittest

from powerfill.powers import pw_solve

NO_MARKS = [8, 0, 0, 0, 0, 0, 0, 0, 0]
NO_PLACES = [24] + [0] * 24


class WrittenOut(unittest.TestCase):
    def test_no_place(self):
        self.assertEqual(pw_solve(0, [0]), [2, 0])

    def test_no_place_and_an_equation_of_nothing(self):
        self.assertEqual(pw_solve(0, [1] + NO_MARKS + NO_PLACES), [2, 0])

    def test_one_place_without_equations(self):
        self.assertEqual(pw_solve(1, [0]), [2, 1] + NO_MARKS + [24, 1] + [0] * 23)

    def test_one_place_that_is_all_the_marks(self):
        e = [1, 8, 1, -2, 3, -4, 5, -6, 7, -8, 24, 1] + [0] * 23
        self.assertEqual(pw_solve(1, e), [2, 1, 8, -1, 2, -3, 4, -5, 6, -7, 8] + NO_PLACES)

    def test_three_places(self):
        e = [1] + NO_MARKS + [24, 2, 0, 3] + [0] * 21
        self.assertEqual(pw_solve(3, e),
                         [2, 3]
                         + NO_MARKS + [24, 3, 0, 0] + [0] * 21
                         + NO_MARKS + [24, 0, 1, 0] + [0] * 21
                         + NO_MARKS + [24, -2, 0, 0] + [0] * 21)

    def test_every_n_without_equations(self):
        for n in range(25):
            told = [2, n]
            for k in range(n):
                told += NO_MARKS + [24] + [0] * k + [1] + [0] * (23 - k)
            self.assertEqual(pw_solve(n, [0]), told)

    def test_24_places(self):
        # The first and the last place are the last mark; of the others each is itself.
        e = [2] + [8] + [0] * 7 + [-1] + [24, 1] + [0] * 23 + NO_MARKS + [24, 1] + [0] * 22 + [-1]
        told = [2, 24] + [8] + [0] * 7 + [1] + NO_PLACES
        for k in range(1, 23):
            told += NO_MARKS + [24] + [0] * k + [1] + [0] * (23 - k)
        told += [8] + [0] * 7 + [1] + NO_PLACES
        self.assertEqual(pw_solve(24, e), told)


class Refusals(unittest.TestCase):
    def test_22_is_of_form_0(self):
        self.assertEqual(pw_solve(25, [0]), [0, -22])

    def test_61_is_of_form_1_with_the_equation(self):
        nothing = NO_MARKS + NO_PLACES
        mark = [8, 0, 0, 1, 0, 0, 0, 0, 0] + NO_PLACES
        self.assertEqual(pw_solve(0, [1] + mark), [1, -61, 0])
        self.assertEqual(pw_solve(0, [3] + nothing + nothing + mark), [1, -61, 2])

    def test_75_is_of_form_1_with_the_equation(self):
        first = NO_MARKS + [24, 1, -1048576] + [0] * 22
        second = NO_MARKS + [24, 0, 1, -1048576] + [0] * 21
        self.assertEqual(pw_solve(3, [2] + first + second), [1, -75, 1])


if __name__ == "__main__":
    unittest.main()
