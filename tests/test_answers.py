"""The calls that answer about the program: status, optimum, multipliers, refutation, ray, corners, is_feasible."""

import unittest

from calling import ask, ask_of, program

UNITS = [[1 if k == j else 0 for j in range(5)] for k in range(5)]
FIVE_BY_SIX = [(UNITS[k], k + 1) for k in range(5)] + [([1] * 5, 12)]
MIXED = [([2, 1, 0], 1), ([0, 3, 1], 1), ([1, 0, 5], 1)]
INFEASIBLE = program(2, [([1, 1], 4), ([-1, -1], -5)], [1, 1])
UNBOUNDED = program(2, [([1, -2], 3)], [1, 1])
OPTIMAL = program(2, [([1, 1], 4), ([1, 0], 2)], [3, 2])
# Its numbers are so mixed that a numerator takes more than 64 bits.
GREAT = program(5, [
    ([-999, 1000, 999, -997, -1000], 926), ([-1000, 999, 1000, 998, -997], 958),
    ([1000, 998, -1000, 999, -1000], 945), ([997, -1000, 998, -1000, -999], 914),
    ([-997, 997, -997, 998, 998], 969), ([968, 14, 803, 195, 557], 969),
], [988, 985, 977, 914, 902])


class AnswerCase(unittest.TestCase):
    CALL = None

    def expect(self, made, *answer):
        self.assertEqual(ask_of(made, (self.CALL,)), [list(answer)], made)


class Status(AnswerCase):
    CALL = "status"

    def test_ordinary_programs(self):
        self.expect(OPTIMAL, 0)
        self.expect(INFEASIBLE, 1)
        self.expect(UNBOUNDED, 2)
        self.expect(GREAT, 0)

    def test_no_constraint(self):
        for variables in range(1, 6):
            self.expect(program(variables, []), 0)
            self.expect(program(variables, [], [-1] * variables), 0)
            self.expect(program(variables, [], [1] * variables), 2)
            self.expect(program(variables, [], [-1] * (variables - 1) + [1]), 2)
            self.expect(program(variables, [], [1] + [-1000] * (variables - 1)), 2)

    def test_all_coefficients_0(self):
        for variables in range(1, 6):
            zero = [0] * variables
            self.expect(program(variables, [(zero, 0)] * 6, zero), 0)
            self.expect(program(variables, [(zero, 0)] * 6, [0] * (variables - 1) + [1]), 2)
            self.expect(program(variables, [(zero, 0)] * 5 + [(zero, -1)], zero), 1)
            self.expect(program(variables, [(zero, 1000)], zero), 0)
            self.expect(program(variables, [(zero, -1000)], zero), 1)

    def test_infeasible_comes_before_unbounded(self):
        self.expect(program(2, [([1, 0], -1)], [0, 1]), 1)
        self.expect(program(2, [([1, -1], -1), ([-1, 1], -1)], [1, 1]), 1)

    def test_a_ray_without_a_positive_value(self):
        self.expect(program(2, [([1, -1], 1), ([-1, 1], 1)], [1, -1]), 0)
        self.expect(program(2, [([1, -1], 1)], [0, 0]), 0)
        self.expect(program(2, [([1, -1], 1)], [0, -1]), 0)
        self.expect(program(2, [([1, -1], 1)], [1, -1]), 0)
        self.expect(program(2, [([1, -1], 1)], [2, -1]), 2)

    def test_small_differences(self):
        self.expect(program(2, [([1000, -999], 0)], [999, -998]), 2)
        self.expect(program(2, [([999, -998], 0)], [1000, -999]), 0)
        self.expect(program(2, [([999, -998], 0)], [999, -998]), 0)
        self.expect(program(2, [([998, -997], 0)], [999, -999]), 0)
        self.expect(program(1, [([1000], 999), ([-1000], -999)], [1]), 0)
        self.expect(program(1, [([1000], 998), ([-1000], -999)], [1]), 1)

    def test_only_one_vector(self):
        self.expect(program(2, [([1, 1], 0)], [1000, 1000]), 0)
        self.expect(program(1, [([1], 3), ([-1], -3)], [5]), 0)

    def test_each_status_in_turn(self):
        given = ask(("create", 1), ("set_objective", [1]), ("status",), ("add_constraint", 5, [1]), ("status",),
                    ("add_constraint", -6, [-1]), ("status",), ("remove_constraint", 0), ("status",))
        self.assertEqual(given, [[0], [0], [2], [0], [0], [1], [1], [1], [2]])


class Optimum(AnswerCase):
    CALL = "optimum"

    def test_one_variable(self):
        self.expect(program(1, [([3], 7)], [2]), 0, 14, 3, 7, 3)
        self.expect(program(1, [([-3], -7)], [-2]), 0, -14, 3, 7, 3)
        self.expect(program(1, [([4], 6), ([6], 9), ([2], 5)], [6]), 0, 9, 1, 3, 2)

    def test_five_variables_and_six_constraints(self):
        self.expect(program(5, FIVE_BY_SIX, [5, 4, 3, 2, 1]), 0, 32, 1, 1, 1, 2, 1, 3, 1, 4, 1, 2, 1)
        self.expect(program(5, FIVE_BY_SIX, [1, 2, 3, 4, 5]), 0, 50, 1, 0, 1, 0, 1, 3, 1, 4, 1, 5, 1)

    def test_fractions(self):
        self.expect(program(2, [([2, 1], 3), ([1, 3], 4)], [1, 1]), 0, 2, 1, 1, 1, 1, 1)
        self.expect(program(2, [([3, 2], 4), ([2, 5], 3)], [7, 5]), 0, 103, 11, 14, 11, 1, 11)
        self.expect(program(3, MIXED, [1, 1, 1]), 0, 24, 31, 11, 31, 9, 31, 4, 31)

    def test_more_than_64_bits(self):
        self.expect(GREAT, 0, 46814070784999127286, 18621402303565823, 7488125838771147, 18621402303565823,
                    25154634629459532, 18621402303565823, 7585173350649652, 18621402303565823,
                    299656257150201, 18621402303565823, 7709409272345456, 18621402303565823)

    def test_a_value_below_0(self):
        self.expect(program(2, [([-3, -7], -1)], [-2, -5]), 0, -2, 3, 1, 3, 0, 1)

    def test_no_constraint(self):
        self.expect(program(3, [], [-1, 0, -1000]), 0, 0, 1, 0, 1, 0, 1, 0, 1)

    def test_all_coefficients_0(self):
        self.expect(program(2, [([0, 0], 0)] * 6, [0, 0]), 0, 0, 1, 0, 1, 0, 1)

    def test_of_several_the_first(self):
        self.expect(program(2, [([1, 1], 4)], [1, 1]), 0, 4, 1, 0, 1, 4, 1)
        self.expect(program(2, [([1, 1], 4), ([0, 1], 3)], [1, 1]), 0, 4, 1, 1, 1, 3, 1)
        self.expect(program(3, [([1, 1, 1], 2)], [1, 1, 1]), 0, 2, 1, 0, 1, 0, 1, 2, 1)
        self.expect(program(3, [([1, 1, 1], 2)], [1, 1, 0]), 0, 2, 1, 0, 1, 2, 1, 0, 1)
        self.expect(program(3, [([1, 1, 1], 2)], [1, 0, 1]), 0, 2, 1, 0, 1, 0, 1, 2, 1)

    def test_of_several_that_differ_behind_the_first_position(self):
        self.expect(program(3, [([1, 0, 0], 1), ([0, 1, 1], 1)], [1, 1, 1]), 0, 2, 1, 1, 1, 0, 1, 1, 1)
        self.expect(program(3, [([3, 0, 0], 1), ([0, 2, 3], 5), ([0, 1, 0], 1)], [0, 2, 3]),
                    0, 5, 1, 0, 1, 0, 1, 5, 3)

    def test_of_several_whose_first_positions_are_equal(self):
        # The corners (1, 0, 1) and (1, 1, 0), then (1/2, 0, 3/2) and (1/2, 3/2, 0), whichever is found first.
        for rows in ([([1, 0, 0], 1), ([0, 1, 1], 1)], [([0, 1, 1], 1), ([1, 0, 0], 1)]):
            self.expect(program(3, rows, [1, 1, 1]), 0, 2, 1, 1, 1, 0, 1, 1, 1)
        for rows in ([([2, 0, 0], 1), ([0, 2, 2], 3)], [([0, 2, 2], 3), ([2, 0, 0], 1)]):
            self.expect(program(3, rows, [1, 1, 1]), 0, 2, 1, 1, 2, 0, 1, 3, 2)
        # The last positions alone tell (0, 1, 2) from (0, 1, 3), with other positions before them 0 or equal.
        self.expect(program(3, [([0, 1, 0], 1), ([0, 0, 1], 3), ([0, 0, -1], -2)], [0, 1, 0]),
                    0, 1, 1, 0, 1, 1, 1, 2, 1)

    def test_of_several_fractions_the_first(self):
        self.expect(program(2, [([3, 1], 2), ([-1, -1], -1), ([6, 3], 5)], [6, 3]), 0, 5, 1, 0, 1, 5, 3)
        self.expect(program(2, [([1, 2], 3), ([2, 4], 6), ([1, 0], 1)], [5, 10]), 0, 15, 1, 0, 1, 3, 2)
        # The corners (3/10, ..) and (2/5, ..): the smaller one has the greater denominator and numerator.
        self.expect(program(2, [([1, 1], 1), ([-10, 0], -3), ([5, 0], 2)], [1, 1]), 0, 1, 1, 3, 10, 7, 10)

    def test_an_objective_of_0(self):
        self.expect(program(2, [([-1, -1], -2), ([1, 0], 3)], [0, 0]), 0, 0, 1, 0, 1, 2, 1)
        self.expect(program(2, [([-2, -3], -5), ([1, 1], 3), ([-1, 0], -1)], [0, 0]), 0, 0, 1, 1, 1, 1, 1)

    def test_a_program_without_end_may_have_one(self):
        self.expect(program(2, [([-1, -1], -5)], [-1, -1]), 0, -5, 1, 0, 1, 5, 1)
        self.expect(program(2, [([1, -1], 1), ([-1, 1], 1)], [1, -1]), 0, 1, 1, 1, 1, 0, 1)

    def test_another_status(self):
        self.expect(INFEASIBLE, -33)
        self.expect(UNBOUNDED, -33)
        self.expect(program(1, [], [1]), -33)


class Multipliers(AnswerCase):
    CALL = "multipliers"

    def test_ordinary_programs(self):
        self.expect(OPTIMAL, 2, 2, 1, 1, 1)
        self.expect(program(2, [([2, 1], 3), ([1, 3], 4)], [1, 1]), 2, 2, 5, 1, 5)
        self.expect(program(3, MIXED, [1, 1, 1]), 3, 13, 31, 6, 31, 5, 31)
        self.expect(program(2, [([-3, -7], -1)], [-2, -5]), 1, 2, 3)

    def test_five_variables_and_six_constraints(self):
        self.expect(program(5, FIVE_BY_SIX, [5, 4, 3, 2, 1]), 6, 4, 1, 3, 1, 2, 1, 1, 1, 0, 1, 1, 1)
        self.expect(program(5, FIVE_BY_SIX, [1, 2, 3, 4, 5]), 6, 0, 1, 0, 1, 0, 1, 1, 1, 2, 1, 3, 1)

    def test_no_constraint(self):
        for variables in range(1, 6):
            self.expect(program(variables, []), 0)
            self.expect(program(variables, [], [-1000] * variables), 0)

    def test_all_coefficients_0(self):
        self.expect(program(2, [([0, 0], 0)], [0, 0]), 1, 0, 1)
        self.expect(program(5, [([0] * 5, 0)] * 6, [0] * 5), 6, *[0, 1] * 6)

    def test_an_objective_of_0(self):
        self.expect(program(2, [([1, 1], 2), ([0, 0], 0), ([1, 0], 0)], [0, 0]), 3, 0, 1, 0, 1, 0, 1)

    def test_of_several_the_first(self):
        self.expect(program(2, [([1, 0], 1), ([0, 1], 1), ([1, 1], 2)], [1, 1]), 3, 0, 1, 0, 1, 1, 1)
        self.expect(program(1, [([1], 2), ([2], 4), ([3], 6)], [6]), 3, 0, 1, 0, 1, 2, 1)
        self.expect(program(2, [([1, 1], 2), ([2, 2], 4), ([1, 0], 2)], [2, 2]), 3, 0, 1, 1, 1, 0, 1)

    def test_another_status(self):
        self.expect(INFEASIBLE, -33)
        self.expect(program(2, [([1, 0], -1)], [-1, -1]), -33)
        self.expect(UNBOUNDED, -33)
        self.expect(program(1, [], [1]), -33)


class Refutation(AnswerCase):
    CALL = "refutation"

    def test_ordinary_programs(self):
        self.expect(INFEASIBLE, 2, 1, 2, 1, 2)
        self.expect(program(1, [([1], 1), ([-1], -2)], [1]), 2, 1, 2, 1, 2)
        self.expect(program(2, [([3, 2], 4), ([-5, -7], -15), ([0, 0], 0)]), 3, 7, 9, 2, 9, 0, 1)

    def test_one_constraint_is_enough(self):
        self.expect(program(1, [([1], -1)]), 1, 1, 1)
        self.expect(program(2, [([0, 0], 5), ([1, 1], -1)]), 2, 0, 1, 1, 1)
        self.expect(program(5, [([0] * 5, -1000)]), 1, 1, 1)
        self.expect(program(5, [([1000] * 5, -1)] * 6), 6, *[0, 1] * 5, 1, 1)

    def test_of_several_the_first_and_not_the_strongest(self):
        self.expect(program(1, [([0], -3), ([0], -1)]), 2, 0, 1, 1, 1)
        self.expect(program(1, [([0], -1), ([0], -3)]), 2, 0, 1, 1, 1)
        self.expect(program(2, [([1, 1], -1), ([1, 0], -5), ([0, 1], -2)], [1, 1]), 3, 0, 1, 0, 1, 1, 1)
        self.expect(program(2, [([1, 1], 4), ([-1, -1], -5), ([-1, 0], -9), ([1, 0], 2)]),
                    4, 0, 1, 0, 1, 1, 2, 1, 2)

    def test_the_first_corner_is_not_always_one(self):
        self.expect(program(2, [([0, 0], -1), ([0, 0], 5)]), 2, 1, 1, 0, 1)
        self.expect(program(1, [([0], -1), ([0], 0), ([1], 0)]), 3, 1, 1, 0, 1, 0, 1)

    def test_does_not_depend_on_the_objective(self):
        for objective in ([0, 0], [-1000, 1000], [1, 1], [-7, -8]):
            self.expect(program(2, [([1, 1], 4), ([-1, -1], -5)], objective), 2, 1, 2, 1, 2)

    def test_there_is_none(self):
        self.expect(OPTIMAL, -33)
        self.expect(UNBOUNDED, -33)
        for variables in range(1, 6):
            self.expect(program(variables, []), -33)
            self.expect(program(variables, [([0] * variables, 0)] * 6), -33)

    def test_one_vector_alone_is_feasible(self):
        self.expect(program(1, [([1], 3), ([-1], -3)]), -33)
        self.expect(program(2, [([1, 1], 0)]), -33)


class Ray(AnswerCase):
    CALL = "ray"

    def test_ordinary_programs(self):
        self.expect(UNBOUNDED, 2, 0, 1, 1, 1)
        self.expect(program(3, [([2, -3, 0], 1), ([0, 1, -5], 2)], [1, 0, 0]), 3, 5, 9, 10, 27, 2, 27)
        self.expect(program(2, [([1, -1], 5), ([-2, 1], 3)], [3, -1]), 2, 1, 2, 1, 2)
        self.expect(program(2, [([-1, -1], -5)], [-1, 2]), 2, 0, 1, 1, 1)

    def test_no_constraint(self):
        self.expect(program(1, [], [1]), 1, 1, 1)
        self.expect(program(3, [], [1, 2, 1]), 3, 0, 1, 1, 1, 0, 1)
        self.expect(program(5, [], [-1000, -1000, 1, -1000, 0]), 5, 0, 1, 0, 1, 1, 1, 0, 1, 0, 1)

    def test_the_greatest_value(self):
        self.expect(program(3, [], [7, 5, 6]), 3, 1, 1, 0, 1, 0, 1)
        self.expect(program(3, [([1, 0, 0], 4)], [7, 5, 6]), 3, 0, 1, 0, 1, 1, 1)

    def test_of_several_the_first(self):
        self.expect(program(3, [], [1, 1, 1]), 3, 0, 1, 0, 1, 1, 1)
        self.expect(program(3, [], [2, 2, 1]), 3, 0, 1, 1, 1, 0, 1)
        self.expect(program(3, [], [1, 2, 2]), 3, 0, 1, 0, 1, 1, 1)
        self.expect(program(3, [([1, 1, -1], 1)], [1, 2, 0]), 3, 0, 1, 1, 2, 1, 2)

    def test_only_one(self):
        self.expect(program(2, [([1, -1], 0), ([-1, 1], 0)], [1, 0]), 2, 1, 2, 1, 2)

    def test_all_coefficients_of_the_constraints_0(self):
        self.expect(program(2, [([0, 0], 0)] * 6, [1, 0]), 2, 1, 1, 0, 1)

    def test_bounds_do_not_matter(self):
        for bound in (-1000, -1, 0, 1, 1000):
            self.expect(program(2, [([-2, 3], bound)], [0, 1]), 2, 3, 5, 2, 5)

    def test_another_status(self):
        self.expect(OPTIMAL, -33)
        self.expect(INFEASIBLE, -33)
        self.expect(program(2, [([1, 0], -1)], [0, 1]), -33)
        self.expect(program(2, []), -33)
        self.expect(program(2, [([1, -1], 1)], [1, -1]), -33)


class Corners(AnswerCase):
    CALL = "corners"

    def test_boxes(self):
        for variables in range(1, 6):
            rows = [(UNITS[k][:variables], 1) for k in range(variables)]
            self.expect(program(variables, rows), 2 ** variables)
        self.expect(program(5, FIVE_BY_SIX), 37)

    def test_no_constraint(self):
        for variables in range(1, 6):
            self.expect(program(variables, []), 1)

    def test_all_coefficients_0(self):
        for variables in range(1, 6):
            self.expect(program(variables, [([0] * variables, 0)] * 6), 1)
            self.expect(program(variables, [([0] * variables, -1)] * 6), 0)

    def test_several_choices_that_give_the_same_are_counted_once(self):
        self.expect(program(2, [([1, 0], 1), ([2, 0], 2), ([0, 1], 1), ([0, 3], 3), ([1, 1], 2), ([1, -1], 0)]), 3)
        self.expect(program(2, [([1, 1], 0), ([1, 2], 0), ([2, 1], 0)]), 1)
        self.expect(program(3, [([1, 1, 1], 1), ([1, 1, 1], 1), ([2, 2, 2], 2)]), 4)
        self.expect(program(1, [([2], 3), ([4], 6), ([-2], -3)]), 1)
        self.expect(program(1, [([6], 9), ([4], 6), ([2], 3), ([-2], 0), ([-1000], 0), ([1000], 1000)]), 2)

    def test_different_ones_that_are_close(self):
        self.expect(program(1, [([1000], 999), ([-999], -998)]), 2)
        self.expect(program(2, [([1, 1], 1), ([-1000, 0], -999), ([999, 0], 999)]), 3)

    def test_programs_without_end(self):
        self.expect(UNBOUNDED, 2)
        self.expect(program(2, [([-1, -1], -1)], [1, 1]), 2)

    def test_flat_programs(self):
        self.expect(program(2, [([1, 1], 1), ([-1, -1], -1)]), 2)
        self.expect(program(1, [([2], 3), ([-2], -3)]), 1)

    def test_there_is_none(self):
        self.expect(INFEASIBLE, 0)
        self.expect(program(1, [([1], -1)]), 0)

    def test_does_not_depend_on_the_objective(self):
        for objective in ([0, 0], [-1000, 1000], [1, 1], [-7, -8]):
            self.expect(program(2, [([1, 1], 4), ([1, 0], 2)], objective), 4)


class IsFeasible(unittest.TestCase):
    def expect(self, made, nums, dens, answer):
        self.assertEqual(ask_of(made, ("is_feasible", nums, dens)), [[answer]], (nums, dens))

    def test_ordinary_vectors(self):
        self.expect(OPTIMAL, [0, 0], [1, 1], 1)
        self.expect(OPTIMAL, [1, 7], [2, 2], 1)
        self.expect(OPTIMAL, [2, 2], [1, 1], 1)
        self.expect(OPTIMAL, [3, 0], [1, 1], 0)
        self.expect(OPTIMAL, [0, 5], [1, 1], 0)

    def test_just_inside_and_just_outside(self):
        self.expect(OPTIMAL, [1, 10], [3, 3], 1)
        self.expect(OPTIMAL, [1, 11], [3, 3], 1)
        self.expect(OPTIMAL, [1, 12], [3, 3], 0)
        self.expect(OPTIMAL, [2000000001, 0], [1000000000, 1], 0)
        self.expect(OPTIMAL, [2000000000, 0], [1000000000, 1], 1)
        self.expect(OPTIMAL, [1999999999, 0], [1000000000, 1], 1)

    def test_no_element_may_be_negative(self):
        self.expect(OPTIMAL, [-1, 1], [1, 1], 0)
        self.expect(OPTIMAL, [1, -1], [1, 1], 0)
        self.expect(OPTIMAL, [1, -1], [1, 2147483647], 0)
        self.expect(OPTIMAL, [-2147483648, -2147483648], [1, 1], 0)
        self.expect(program(1, []), [-1], [2147483647], 0)
        self.expect(program(1, []), [0], [2147483647], 1)

    def test_denominators_that_are_not_in_lowest_terms(self):
        self.expect(OPTIMAL, [4, 6], [2, 3], 1)
        self.expect(OPTIMAL, [6, 8], [2, 2], 0)
        self.expect(OPTIMAL, [2000000000, 10], [1000000000, 5], 1)
        self.expect(OPTIMAL, [0, 16], [2147483647, 4], 1)
        self.expect(program(1, [([2], 1)]), [50], [100], 1)
        self.expect(program(1, [([2], 1)]), [51], [100], 0)

    def test_differences_too_small_for_a_float(self):
        made = program(2, [([1, 1], 1)])
        self.expect(made, [1, 2147483645], [2147483647, 2147483646], 1)
        self.expect(made, [1, 2147483646], [2147483646, 2147483647], 0)
        self.expect(made, [1073741823, 1073741824], [2147483647, 2147483647], 1)

    def test_each_constraint_counts(self):
        made = program(5, FIVE_BY_SIX)
        self.expect(made, [1, 2, 3, 4, 2], [1] * 5, 1)
        for place in range(5):
            nums = [0] * 5
            nums[place] = place + 2
            self.expect(made, nums, [1] * 5, 0)
            self.expect(made, nums, [2] * 5, 1)
        self.expect(made, [1, 2, 3, 4, 3], [1] * 5, 0)

    def test_at_least(self):
        made = program(2, [([-1, -1], -1)])
        self.expect(made, [0, 0], [1, 1], 0)
        self.expect(made, [1, 1], [2, 2], 1)
        self.expect(made, [2147483647, 2147483647], [1, 1], 1)

    def test_great_numerators(self):
        self.expect(program(5, []), [2147483647] * 5, [1] * 5, 1)
        self.expect(program(5, [([1000] * 5, 1000)]), [2147483647] * 5, [1] * 5, 0)
        self.expect(program(5, [([1000, -1000, 0, 0, 0], 0)]), [2147483647] * 5, [1] * 5, 1)

    def test_in_a_program_without_feasible_vectors(self):
        self.expect(INFEASIBLE, [0, 0], [1, 1], 0)
        self.expect(INFEASIBLE, [9, 9], [2, 2], 0)

    def test_does_not_depend_on_the_objective(self):
        for objective in ([0, 0], [-1000, 1000], [1000, -1000]):
            made = program(2, [([1, 1], 4), ([1, 0], 2)], objective)
            self.expect(made, [2, 2], [1, 1], 1)
            self.expect(made, [3, 1], [1, 1], 0)

    def test_lists_of_wrong_lengths(self):
        for variables in range(1, 6):
            made = program(variables, [])
            for nums_length in range(11):
                for dens_length in range(11):
                    good = nums_length == variables and dens_length == variables
                    self.expect(made, [0] * nums_length, [1] * dens_length, 1 if good else -22)

    def test_as_many_as_constraints_is_wrong(self):
        made = program(2, [([1, 1], 4)] * 3)
        self.expect(made, [0, 0, 0], [1, 1, 1], -22)
        self.expect(made, [0, 0], [1, 1], 1)

    def test_denominators_of_0_and_below(self):
        for den in (0, -1, -2, -2147483648):
            self.expect(OPTIMAL, [1, 1], [1, den], -22)
            self.expect(OPTIMAL, [1, 1], [den, 1], -22)
            self.expect(OPTIMAL, [0, 0], [den, den], -22)
            self.expect(OPTIMAL, [-1, -1], [den, den], -22)
            self.expect(INFEASIBLE, [-1, 1], [1, den], -22)
            self.expect(program(1, []), [-1], [den], -22)


if __name__ == "__main__":
    unittest.main()
