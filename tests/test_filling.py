"""Point 2: the filling, equation by equation, with -61 and -75 at the equation's number.

The answers here were worked out by hand from the document's words. Places are p, q, s, .. in their order.
"""

import unittest

from tests.helper import BOUND, GIVEN, NOTHING, answer, product, solve, too_great, unsolvable


class NoSolution(unittest.TestCase):
    def test_marks_alone(self):
        for k in range(8):
            for x in (1, -1, GIVEN, -GIVEN):
                self.assertEqual(solve(2, [product(marks={k: x})]), unsolvable(0))

    def test_marks_alone_in_a_later_equation(self):
        self.assertEqual(solve(2, [product([1]), NOTHING, product(marks=[0, 3])]), unsolvable(2))

    def test_marks_alone_once_it_is_filled_in(self):
        # p is filled with two of the mark, so that p less one of it leaves the mark.
        self.assertEqual(solve(2, [product([1], [-2]), product([1], [-1])]), unsolvable(1))
        self.assertEqual(solve(2, [product([1], [-2]), product([1], [-2])]), answer([product(marks=[2]), product([0, 1])]))

    def test_a_mark_left_over_beside_one_place(self):
        for x in (1, -1, 3, -3):
            self.assertEqual(solve(1, [product([2], [x])]), unsolvable(0))
            self.assertEqual(solve(1, [product([-2], [x])]), unsolvable(0))

    def test_a_mark_left_over_after_several_rounds(self):
        # 6 p + 10 q comes to 2 of one place: 4 of a mark can be made of it, 3 can't.
        self.assertEqual(solve(2, [product([6, 10], [3])]), unsolvable(0))
        self.assertEqual(solve(2, [product([6, 10], [4])])[0], 2)

    def test_a_mark_left_over_in_a_later_equation(self):
        self.assertEqual(solve(3, [product([1]), product([0, 1]), product([0, 0, 2], {7: 1})]), unsolvable(2))

    def test_the_first_equation_without_solution_is_told(self):
        self.assertEqual(solve(1, [product([1]), product(marks=[1]), product(marks=[2])]), unsolvable(1))
        self.assertEqual(solve(2, [product([2], [1]), product(marks=[1])]), unsolvable(0))

    def test_one_mark_that_divides_does_not_help_another(self):
        self.assertEqual(solve(1, [product([2], [2, 4, 6, 1])]), unsolvable(0))
        self.assertEqual(solve(1, [product([2], [2, 4, -6])]), answer([product(marks=[-1, -2, 3])]))


class WhichPlace(unittest.TestCase):
    def test_of_several_nearest_the_first(self):
        self.assertEqual(solve(2, [product([1, 1])]), answer([product([0, -1]), product([0, 1])]))
        self.assertEqual(solve(2, [product([1, -1])]), answer([product([0, 1]), product([0, 1])]))
        self.assertEqual(solve(2, [product([-1, 1])]), answer([product([0, 1]), product([0, 1])]))
        self.assertEqual(solve(3, [product([0, 5, 5])]), answer([product([1]), product([0, 0, -1]), product([0, 0, 1])]))

    def test_a_nearer_one_further_on(self):
        self.assertEqual(solve(2, [product([2, 1])]), answer([product([1]), product([-2])]))
        self.assertEqual(solve(2, [product([3, -1])]), answer([product([1]), product([3])]))
        self.assertEqual(solve(2, [product([-3, 1])]), answer([product([1]), product([3])]))

    def test_below_0_is_as_near_as_above(self):
        # p with -2 is nearer than q with 4, and s with 2 is as near but comes later.
        self.assertEqual(solve(3, [product([-2, 4, 2])]),
                         answer([product([0, 2, 1]), product([0, 1]), product([0, 0, 1])]))

    def test_marks_are_never_chosen(self):
        self.assertEqual(solve(1, [product([3], [-3, 6, 3])]), answer([product(marks=[1, -2, -1])]))

    def test_the_last_place(self):
        self.assertEqual(solve(24, [product({22: 2, 23: 1})])[2 + 34 * 23:],
                         [8] + [0] * 8 + [24] + [0] * 22 + [-2, 0])


class Divisions(unittest.TestCase):
    def test_both_above_0(self):
        self.assertEqual(solve(2, [product([2, 3])]), answer([product([3]), product([-2])]))

    def test_a_above_0_and_the_other_below(self):
        # -3 by 2 is -2, 1 left over; so p is p + 2 q, then q is q - 2 p.
        self.assertEqual(solve(2, [product([2, -3])]), answer([product([-3]), product([-2])]))

    def test_a_below_0_and_the_other_above(self):
        # 3 by -2 is -2, -1 left over.
        self.assertEqual(solve(2, [product([-2, 3])]), answer([product([-3]), product([-2])]))

    def test_both_below_0(self):
        self.assertEqual(solve(2, [product([-2, -3])]), answer([product([3]), product([-2])]))

    def test_the_sign_of_what_is_left_over_tells(self):
        # 5 p - 7 q: -7 by 5 is -2, 3 left over (by rounding towards 0 it would be -1 and -2).
        # 5 p + 3 q, then 2 p + 3 q, then 2 p + q, then q alone.
        self.assertEqual(solve(2, [product([5, -7])]), answer([product([-7]), product([-5])]))
        # 5 p + 12 q + 7 s, then 5 p + 2 q + 2 s, then p + 2 q.
        self.assertEqual(solve(3, [product([5, 12, 7])]),
                         answer([product([0, -12, 1]), product([0, 5, -1]), product([0, 0, 1])]))
        # 5 p - 12 q - 7 s, then 5 p + 3 q + 3 s, then 2 p + 3 q, then 2 p + q.
        self.assertEqual(solve(3, [product([5, -12, -7])]),
                         answer([product([-12, 0, -1]), product([-5, 0, -1]), product([0, 0, 1])]))

    def test_marks_are_divided_too(self):
        # -2 p + 3 q + 5 of a mark: p is p + 2 q + 3 marks, then q is q - 2 p - 1 mark.
        self.assertEqual(solve(2, [product([-2, 3], [5])]), answer([product([-3], [1]), product([-2], [-1])]))

    def test_marks_below_0_are_rounded_down(self):
        # 2 p + 3 q - 5 of a mark: p is p - q + 3 marks, r 2 p + q + 1 mark; then q is q - 2 p - 1 mark.
        self.assertEqual(solve(2, [product([2, 3], [-5])]), answer([product([3], [4]), product([-2], [-1])]))

    def test_three_places(self):
        self.assertEqual(solve(3, [product([6, 10, 15])]),
                         answer([product([5, 0, -5]), product([0, 0, -3]), product([-2, 0, 4])]))


class SeveralEquations(unittest.TestCase):
    def test_each_is_filled_in_by_those_before(self):
        # p is q; then 2 q + 3 s: q is 3 q, s is -2 q, and so p is 3 q.
        self.assertEqual(solve(3, [product([1, -1]), product([2, 0, 3])]),
                         answer([product([0, 3]), product([0, 3]), product([0, -2])]))

    def test_all_places_go(self):
        self.assertEqual(solve(2, [product([1, 1]), product([1, -1])]), answer([NOTHING, NOTHING]))
        self.assertEqual(solve(2, [product([1, 1], [-2]), product([1, -1], [0, -2])]),
                         answer([product(marks=[1, 1]), product(marks=[1, -1])]))

    def test_an_equation_of_nothing_changes_nothing(self):
        self.assertEqual(solve(2, [NOTHING, product([2, 3]), NOTHING]), solve(2, [product([2, 3])]))


class TooGreat(unittest.TestCase):
    def test_the_filling_at_the_bound(self):
        # p is 1024 q, then q is 2^20 s or -2^20 s.
        for sign in (1, -1):
            self.assertEqual(solve(3, [product([1, -1024]), product([0, 1, -sign * GIVEN])]),
                             answer([product([0, 0, sign * BOUND]), product([0, 0, sign * GIVEN]), product([0, 0, 1])]))

    def test_the_filling_one_beyond_the_bound(self):
        # p is 1024 q and 1 or -1 of s, then q is 2^20 s or -2^20 s.
        for sign in (1, -1):
            system = [product([1, -1024, -sign]), product([0, 1, -sign * GIVEN])]
            self.assertEqual(solve(3, system), too_great(1))
            self.assertEqual(solve(3, [NOTHING, NOTHING] + system), too_great(3))

    def test_a_mark_of_the_filling_at_the_bound(self):
        for sign in (1, -1):
            self.assertEqual(solve(2, [product([1, -1024]), product([0, 1], {7: -sign * GIVEN})]),
                             answer([product(marks={7: sign * BOUND}), product(marks={7: sign * GIVEN})]))

    def test_a_mark_of_the_filling_one_beyond_the_bound(self):
        for sign in (1, -1):
            self.assertEqual(solve(2, [product([1, -1024], {7: -sign}), product([0, 1], {7: -sign * GIVEN})]),
                             too_great(1))

    def test_a_place_of_r_at_the_bound(self):
        # p is 1024 q, so r is 2^30 q or -2^30 q.
        for sign in (1, -1):
            self.assertEqual(solve(2, [product([1, -1024]), product([sign * GIVEN])]), answer([NOTHING, NOTHING]))

    def test_a_place_of_r_one_beyond_the_bound(self):
        for sign in (1, -1):
            self.assertEqual(solve(2, [product([1, -1024]), product([sign * GIVEN, sign])]), too_great(1))

    def test_a_mark_of_r_at_the_bound(self):
        # p is 1024 of the mark, so r is 2^30 of it or -2^30, and q takes them.
        for sign in (1, -1):
            self.assertEqual(solve(2, [product([1], [-1024]), product([sign * GIVEN, 1])]),
                             answer([product(marks=[1024]), product(marks=[-sign * BOUND])]))

    def test_a_mark_of_r_one_beyond_the_bound(self):
        # What q would be filled with is one beyond; with 2 of q it would be half of that, but r is beyond all the same.
        for sign in (1, -1):
            for x in (1, 2, GIVEN):
                self.assertEqual(solve(2, [product([1], [-1024]), product([sign * GIVEN, x], [sign])]), too_great(1))

    def test_r_ahead_of_no_solution(self):
        for sign in (1, -1):
            self.assertEqual(solve(1, [product([1], [-1024]), product([sign * GIVEN])]), unsolvable(1))
            self.assertEqual(solve(1, [product([1], [-1024]), product([sign * GIVEN], [sign])]), too_great(1))

    def test_the_filling_ahead_of_no_solution(self):
        # 2 q + x s + 1 mark leaves the mark over; by then p, 2^20 of q before, has x / 2 times -2^20 of s.
        self.assertEqual(solve(3, [product([1, -GIVEN]), product([0, 2, 2048], [1])]), unsolvable(1))
        self.assertEqual(solve(3, [product([1, -GIVEN]), product([0, 2, 2050], [1])]), too_great(1))

    def test_the_first_of_both_is_told(self):
        growing = [product([1, -GIVEN]), product([0, 1, -GIVEN])]
        self.assertEqual(solve(3, growing + [product(marks=[1])]), too_great(1))
        self.assertEqual(solve(3, [product(marks=[1])] + growing), unsolvable(0))

    def test_a_greater_exponent_on_the_way_is_told_though_it_would_shrink_again(self):
        # p is 2048 q and x of the mark. Then q is q - s - (2^19 - 1) marks, so that p has x - 2^30 + 2048 of the mark;
        # the next round, where s is s - 2 q - 1 mark, would give back 2048 of it.
        second = product([0, 2, 3], [GIVEN - 1])
        self.assertEqual(solve(3, [product([1, -2048], [2048]), second]),
                         answer([product([0, 6144], [2048 - BOUND]), product([0, 3], [2 - 2 ** 19]),
                                 product([0, -2], [-1])]))
        self.assertEqual(solve(3, [product([1, -2048], [2049]), second]), too_great(1))

    def test_only_what_r_comes_to_counts(self):
        # p and q are 2^20 s each: 2^20 p less 2^20 q comes to nothing, though each by itself is 2^40.
        same = [product([1, 0, -GIVEN]), product([0, 1, -GIVEN])]
        for last in (product([GIVEN, -GIVEN]), product([-GIVEN, GIVEN])):
            self.assertEqual(solve(3, same + [last]), solve(3, same))
        self.assertEqual(solve(3, same)[0], 2)


if __name__ == "__main__":
    unittest.main()
