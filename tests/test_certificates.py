"""The calls that check vectors: slack, check_bound, check_refutation, check_ray, check_optimum."""

import unittest
from fractions import Fraction

from calling import ask, ask_of, program, times, written

GREAT = 2147483647
LEAST = -2147483648
UNITS = [[1 if k == j else 0 for j in range(5)] for k in range(5)]
FIVE_BY_SIX = program(5, [(UNITS[k], k + 1) for k in range(5)] + [([1] * 5, 12)], [5, 4, 3, 2, 1])
ONE = program(1, [([3], 7)], [2])
INFEASIBLE = program(2, [([1, 1], 4), ([-1, -1], -5)], [1, 1])
UNBOUNDED = program(2, [([1, -2], 3)], [1, 1])
OPTIMAL = program(2, [([1, 1], 4), ([1, 0], 2)], [3, 2])
BARE = program(2, [], [0, -5])


def wrong_vectors(width):
    """Vectors that aren't of so many elements, and ones whose denominators are 0 or below."""
    found = []
    for nums_length in range(11):
        for dens_length in range(11):
            if (nums_length, dens_length) != (width, width):
                found.append(([0] * nums_length, [1] * dens_length))
    for place in range(width):
        for den in (0, -1, -2, LEAST):
            dens = [1] * width
            dens[place] = den
            found += [([0] * width, dens), ([1] * width, dens), ([-1] * width, dens), ([GREAT] * width, dens)]
    if width > 0:
        found.append(([0] * width, [0] * width))
        found.append(([LEAST] * width, [LEAST] * width))
    return found


class CheckCase(unittest.TestCase):
    CALL = None

    def expect(self, made, *arguments_and_answer):
        *arguments, answer = arguments_and_answer
        answer = answer if isinstance(answer, list) else [answer]
        self.assertEqual(ask_of(made, (self.CALL, *arguments)), [answer], (made, arguments))


class Slack(CheckCase):
    CALL = "slack"

    def test_ordinary_vectors(self):
        self.expect(OPTIMAL, 0, [1, 1], [2, 3], [0, 19, 6])
        self.expect(OPTIMAL, 1, [1, 1], [2, 3], [0, 3, 2])
        self.expect(OPTIMAL, 0, [1, 1], [1, 1], [0, 2, 1])
        self.expect(UNBOUNDED, 0, [1, 1], [2, 3], [0, 19, 6])
        self.expect(INFEASIBLE, 1, [1, 3], [1, 2], [0, -5, 2])

    def test_just_0(self):
        self.expect(OPTIMAL, 0, [2, 2], [1, 1], [0, 0, 1])
        self.expect(OPTIMAL, 0, [1, 11], [3, 3], [0, 0, 1])
        self.expect(OPTIMAL, 1, [2, 9], [1, 7], [0, 0, 1])
        self.expect(program(1, [([-3], -7)]), 0, [7], [3], [0, 0, 1])
        self.expect(program(1, [([0], 0)]), 0, [7], [3], [0, 0, 1])

    def test_below_0(self):
        self.expect(OPTIMAL, 0, [9, 0], [2, 1], [0, -1, 2])
        self.expect(OPTIMAL, 1, [9, 0], [2, 1], [0, -5, 2])
        self.expect(INFEASIBLE, 1, [0, 0], [1, 1], [0, -5, 1])

    def test_vectors_that_are_not_feasible(self):
        self.expect(OPTIMAL, 0, [-1, 0], [1, 1], [0, 5, 1])
        self.expect(OPTIMAL, 0, [-1, -1], [2, 3], [0, 29, 6])
        self.expect(OPTIMAL, 1, [-1, 9], [3, 1], [0, 7, 3])

    def test_denominators_that_are_not_in_lowest_terms(self):
        self.expect(OPTIMAL, 0, [6, 4], [4, 8], [0, 2, 1])
        self.expect(OPTIMAL, 0, [0, 10], [GREAT, 20], [0, 7, 2])
        self.expect(OPTIMAL, 1, [-10, 1], [4, 1], [0, 9, 2])

    def test_one_variable(self):
        self.expect(ONE, 0, [0], [5], [0, 7, 1])
        self.expect(ONE, 0, [1], [5], [0, 32, 5])
        self.expect(ONE, 0, [7], [6], [0, 7, 2])

    def test_five_variables_and_each_of_six_constraints(self):
        nums, dens = [1, 2, 3, 4, 5], [2, 3, 4, 5, 6]
        for place, answer in enumerate([[1, 2], [4, 3], [9, 4], [16, 5], [25, 6], [169, 20]]):
            self.expect(FIVE_BY_SIX, place, nums, dens, [0] + answer)

    def test_numbers_at_their_bounds(self):
        made = program(1, [([1000], 1000), ([-1000], -1000)])
        self.expect(made, 0, [GREAT], [1], [0, -2147483646000, 1])
        self.expect(made, 0, [LEAST], [1], [0, 2147483649000, 1])
        self.expect(made, 0, [1], [GREAT], [0, 2147483646000, GREAT])
        self.expect(made, 0, [GREAT], [GREAT], [0, 0, 1])
        self.expect(made, 0, [LEAST], [GREAT], [0, 4294967295000, GREAT])
        self.expect(made, 1, [LEAST], [1], [0, -2147483649000, 1])
        self.expect(made, 1, [1], [GREAT], [0, -2147483646000, GREAT])

    def test_more_than_64_bits(self):
        row, dens = [1000, -999, 998, -997, 1000], [GREAT, GREAT - 1, GREAT - 2, GREAT - 3, GREAT - 4]
        for nums in ([1, 1, 1, 1, 1], [LEAST, GREAT, LEAST, GREAT, LEAST], [GREAT] * 5):
            left = 7 - times(row, [Fraction(num, den) for num, den in zip(nums, dens)])
            self.assertGreater(left.denominator, 2 ** 64)
            self.expect(program(5, [(row, 7)]), 0, nums, dens, [0] + written([left]))

    def test_numbers_follow_a_removal(self):
        given = ask(*OPTIMAL, ("remove_constraint", 0), ("slack", 0, [1, 1], [2, 3]), ("slack", 1, [1, 1], [2, 3]),
                    ("add_constraint", 9, [0, 3]), ("slack", 1, [1, 1], [2, 3]))
        self.assertEqual(given[len(OPTIMAL):], [[1], [0, 3, 2], [-2], [1], [0, 8, 1]])

    def test_no_such_constraint(self):
        for place in (0, 1, 5, 4294967295):
            self.expect(BARE, place, [1, 1], [1, 1], -2)
        for place in (2, 3, 6, 2147483648, 4294967295):
            self.expect(OPTIMAL, place, [1, 1], [1, 1], -2)
        self.expect(FIVE_BY_SIX, 6, [0] * 5, [1] * 5, -2)

    def test_no_such_constraint_comes_first(self):
        for nums, dens in wrong_vectors(2):
            self.expect(OPTIMAL, 2, nums, dens, -2)
            self.expect(OPTIMAL, 1, nums, dens, -22)

    def test_wrong_vectors(self):
        for made, width in ((ONE, 1), (OPTIMAL, 2), (INFEASIBLE, 2), (UNBOUNDED, 2), (FIVE_BY_SIX, 5)):
            for nums, dens in wrong_vectors(width):
                self.expect(made, 0, nums, dens, -22)


class CheckBound(CheckCase):
    CALL = "check_bound"

    def test_ordinary_vectors(self):
        self.expect(OPTIMAL, [2, 1], [1, 1], [0, 10, 1])
        self.expect(OPTIMAL, [3, 0], [1, 1], [0, 12, 1])
        self.expect(OPTIMAL, [5, 1], [2, 2], [0, 11, 1])
        self.expect(OPTIMAL, [7, 5], [3, 6], [0, 11, 1])
        self.expect(OPTIMAL, [7, 3], [3, 4], [0, 65, 6])
        self.expect(OPTIMAL, [100, 100], [1, 1], [0, 600, 1])

    def test_vectors_that_are_not_feasible_there(self):
        self.expect(OPTIMAL, [1, 1], [1, 1], -33)
        self.expect(OPTIMAL, [0, 0], [1, 1], -33)
        self.expect(OPTIMAL, [1, 9], [1, 1], -33)
        self.expect(OPTIMAL, [2, 0], [1, 1], -33)

    def test_just_inside_and_just_outside(self):
        self.expect(OPTIMAL, [2, GREAT - 1], [1, GREAT], -33)
        self.expect(OPTIMAL, [2, GREAT], [1, GREAT], [0, 10, 1])
        self.expect(OPTIMAL, [2, GREAT], [1, GREAT - 1], [0, 10737418231, 1073741823])
        self.expect(OPTIMAL, [1999999999, 9], [1000000000, 1], -33)
        self.expect(OPTIMAL, [2000000000, 9], [1000000000, 1], [0, 26, 1])

    def test_no_element_may_be_negative(self):
        self.expect(OPTIMAL, [4, -1], [1, 1], -33)
        self.expect(OPTIMAL, [4, -1], [1, GREAT], -33)
        made = program(1, [([-1], 0), ([1], 5)], [1])
        self.expect(made, [-1, 1], [1, 1], -33)
        self.expect(made, [0, 1], [1, 1], [0, 5, 1])
        self.expect(made, [LEAST, LEAST], [1, 1], -33)

    def test_denominators_that_are_not_in_lowest_terms(self):
        self.expect(OPTIMAL, [4, 3], [2, 3], [0, 10, 1])
        self.expect(OPTIMAL, [10, 0], [4, 4], -33)
        self.expect(OPTIMAL, [10, 9], [4, 18], [0, 11, 1])

    def test_bounds_of_0_and_below(self):
        made = program(1, [([-1], -3)], [-2])
        self.expect(made, [2], [1], [0, -6, 1])
        self.expect(made, [1], [2], [0, -3, 2])
        self.expect(made, [0], [7], [0, 0, 1])
        self.expect(made, [3], [1], -33)
        self.expect(INFEASIBLE, [5, 4], [1, 1], [0, 0, 1])

    def test_no_constraint(self):
        self.expect(BARE, [], [], [0, 0, 1])
        for width in range(1, 6):
            self.expect(program(width, []), [], [], [0, 0, 1])
            self.expect(program(width, [], [-1000] * width), [], [], [0, 0, 1])
            self.expect(program(width, [], [-1] * (width - 1) + [1]), [], [], -33)
            self.expect(program(width, [], [1] + [-1] * (width - 1)), [], [], -33)

    def test_one_variable(self):
        self.expect(ONE, [2], [3], [0, 14, 3])
        self.expect(ONE, [1], [1], [0, 7, 1])
        self.expect(ONE, [1], [2], -33)

    def test_five_variables_and_six_constraints(self):
        self.expect(FIVE_BY_SIX, [4, 3, 2, 1, 0, 1], [1] * 6, [0, 32, 1])
        self.expect(FIVE_BY_SIX, [5, 4, 3, 2, 1, 0], [1] * 6, [0, 35, 1])
        self.expect(FIVE_BY_SIX, [0, 0, 0, 0, 0, 5], [1] * 6, [0, 60, 1])
        for place in range(5):
            nums = [10, 8, 6, 4, 2, 0]
            nums[place] -= 1
            self.expect(FIVE_BY_SIX, nums, [2] * 6, -33)
            bound = 35 - Fraction(place + 1, 2) + 6
            self.expect(FIVE_BY_SIX, nums[:5] + [1], [2] * 6, [0] + written([bound]))

    def test_programs_of_each_status(self):
        self.expect(INFEASIBLE, [2, 1], [1, 1], [0, 3, 1])
        self.expect(INFEASIBLE, [1, 1], [1, 1], -33)
        for nums in ([0], [1], [GREAT]):
            self.expect(UNBOUNDED, nums, [1], -33)

    def test_numbers_at_their_bounds(self):
        made = program(1, [([1000], 1000), ([0], -1000)], [1000])
        self.expect(made, [GREAT, 0], [1, 1], [0, 2147483647000, 1])
        self.expect(made, [GREAT, GREAT], [1, 1], [0, 0, 1])
        self.expect(made, [GREAT, 1], [GREAT, GREAT], [0, 2147483646000, GREAT])
        self.expect(made, [GREAT - 1, 1], [GREAT, GREAT], -33)
        self.expect(made, [1, GREAT], [1, 1], [0, -2147483646000, 1])
        self.expect(made, [LEAST, 1], [1, 1], -33)
        self.expect(made, [1, LEAST], [1, 1], -33)

    def test_more_than_64_bits(self):
        bounds, dens = [1000, -999, 998, -997, 1000, 996], [GREAT, GREAT - 1, GREAT - 2, GREAT - 3, GREAT - 4, 3]
        bound = times(bounds, [Fraction(1, den) for den in dens])
        self.assertGreater(bound.denominator, 2 ** 64)
        self.expect(program(1, [([1], number) for number in bounds]), [1] * 6, dens, [0] + written([bound]))

    def test_wrong_vectors(self):
        for made, count in ((BARE, 0), (ONE, 1), (OPTIMAL, 2), (INFEASIBLE, 2), (UNBOUNDED, 1), (FIVE_BY_SIX, 6)):
            for nums, dens in wrong_vectors(count):
                self.expect(made, nums, dens, -22)


class CheckRefutation(CheckCase):
    CALL = "check_refutation"

    def test_ordinary_vectors(self):
        self.expect(INFEASIBLE, [1, 1], [1, 1], 1)
        self.expect(INFEASIBLE, [1, 1], [2, 2], 1)
        self.expect(INFEASIBLE, [11, 10], [10, 10], 1)
        self.expect(INFEASIBLE, [1, 0], [1, 1], 0)
        self.expect(INFEASIBLE, [0, 1], [1, 1], 0)
        self.expect(INFEASIBLE, [2, 1], [1, 1], 0)
        self.expect(OPTIMAL, [1, 1], [1, 1], 0)
        self.expect(UNBOUNDED, [1], [1], 0)

    def test_a_sum_of_just_0(self):
        self.expect(INFEASIBLE, [5, 4], [1, 1], 0)
        self.expect(INFEASIBLE, [5 * 10 ** 8 - 1, 4 * 10 ** 8], [1, 1], 1)
        self.expect(INFEASIBLE, [5 * 10 ** 8 + 1, 4 * 10 ** 8], [1, 1], 0)
        self.expect(program(2, [([1, 1], 4), ([-1, -1], -4)]), [1, 1], [1, 1], 0)
        self.expect(program(1, [([1], 0)]), [1], [1], 0)

    def test_the_zero_vector_is_none(self):
        self.expect(INFEASIBLE, [0, 0], [1, 1], 0)
        self.expect(program(1, [([1], -1)]), [0], [1], 0)

    def test_columns_of_just_0_and_just_below(self):
        self.expect(INFEASIBLE, [GREAT, GREAT], [1, 1], 1)
        self.expect(INFEASIBLE, [GREAT - 1, GREAT], [1, 1], 0)
        self.expect(INFEASIBLE, [1, GREAT], [1, GREAT - 1], 0)
        self.expect(INFEASIBLE, [1, GREAT - 1], [1, GREAT], 1)

    def test_each_column_counts(self):
        for place in range(5):
            first = [1] * 5
            second = [0] * 5
            second[place] = -1
            made = program(5, [(first, 1), (second, -2)])
            self.expect(made, [1, 1], [1, 1], 1)
            self.expect(made, [1, 2], [1, 1], 0)

    def test_no_element_may_be_negative(self):
        made = program(1, [([1], -1), ([0], 5)])
        self.expect(made, [1, 0], [1, 1], 1)
        self.expect(made, [1, -1], [1, 1], 0)
        self.expect(made, [1, -1], [1, GREAT], 0)
        self.expect(program(1, [([-1], 1)]), [-1], [1], 0)
        self.expect(made, [LEAST, LEAST], [1, 1], 0)

    def test_denominators_that_are_not_in_lowest_terms(self):
        self.expect(INFEASIBLE, [4, 6], [4, 6], 1)
        self.expect(INFEASIBLE, [10, 8], [2, 2], 0)
        self.expect(INFEASIBLE, [9, 8], [2, 2], 1)

    def test_no_constraint(self):
        for width in range(1, 6):
            self.expect(program(width, []), [], [], 0)

    def test_six_constraints(self):
        made = program(5, [(UNITS[k], k + 1) for k in range(5)] + [([-1] * 5, -16)])
        self.expect(made, [1] * 6, [1] * 6, 1)
        self.expect(made, [1] * 6, [6] * 6, 1)
        for place in range(5):
            nums = [1] * 6
            nums[place] = 0
            self.expect(made, nums, [1] * 6, 0)
        self.expect(program(5, [(UNITS[k], k + 1) for k in range(5)] + [([-1] * 5, -15)]), [1] * 6, [1] * 6, 0)

    def test_does_not_depend_on_the_objective(self):
        for objective in ([0, 0], [-1000, 1000], [1, 1]):
            made = program(2, [([1, 1], 4), ([-1, -1], -5)], objective)
            self.expect(made, [1, 1], [1, 1], 1)
            self.expect(made, [2, 1], [1, 1], 0)

    def test_differences_too_small_for_a_float(self):
        made = program(1, [([0], 1), ([0], -1)])
        self.expect(made, [GREAT - 2, GREAT - 1], [GREAT - 1, GREAT], 1)
        self.expect(made, [GREAT - 1, GREAT - 2], [GREAT, GREAT - 1], 0)

    def test_wrong_vectors(self):
        for made, count in ((BARE, 0), (ONE, 1), (OPTIMAL, 2), (INFEASIBLE, 2), (UNBOUNDED, 1), (FIVE_BY_SIX, 6)):
            for nums, dens in wrong_vectors(count):
                self.expect(made, nums, dens, -22)


class CheckRay(CheckCase):
    CALL = "check_ray"

    def test_ordinary_vectors(self):
        self.expect(UNBOUNDED, [0, 1], [1, 1], 1)
        self.expect(UNBOUNDED, [1, 1], [1, 1], 1)
        self.expect(UNBOUNDED, [7, 5], [3, 2], 1)
        self.expect(UNBOUNDED, [3, 1], [1, 1], 0)
        self.expect(UNBOUNDED, [1, 0], [1, 1], 0)
        self.expect(OPTIMAL, [1, 1], [1, 1], 0)

    def test_a_sum_of_just_0_and_just_above(self):
        self.expect(UNBOUNDED, [2, 1], [1, 1], 1)
        self.expect(UNBOUNDED, [2 * 10 ** 9 + 1, 10 ** 9], [1, 1], 0)
        self.expect(UNBOUNDED, [2 * 10 ** 9 - 1, 10 ** 9], [1, 1], 1)

    def test_a_value_of_just_0(self):
        made = program(2, [([1, -1], 1)], [1, -1])
        self.expect(made, [1, 1], [1, 1], 0)
        self.expect(made, [0, 1], [1, 1], 0)
        made = program(2, [([1, -2], 1)], [1000, -999])
        self.expect(made, [999, 1000], [1, 1], 0)
        self.expect(made, [1000, 1001], [1, 1], 1)
        self.expect(made, [998, 999], [1, 1], 0)
        self.expect(program(2, [], [0, 0]), [1, 1], [1, 1], 0)

    def test_the_zero_vector_is_none(self):
        self.expect(UNBOUNDED, [0, 0], [1, 1], 0)
        self.expect(program(1, [], [1]), [0], [1], 0)

    def test_no_element_may_be_negative(self):
        self.expect(UNBOUNDED, [-1, 3], [1, 1], 0)
        self.expect(UNBOUNDED, [-1, 3], [GREAT, 1], 0)
        self.expect(program(2, [], [1, -1]), [1, -1], [1, 1], 0)
        self.expect(program(1, [], [-1]), [-1], [1], 0)
        self.expect(program(1, [], [-1]), [LEAST], [1], 0)

    def test_denominators_that_are_not_in_lowest_terms(self):
        self.expect(UNBOUNDED, [4, 6], [2, 6], 1)
        self.expect(UNBOUNDED, [6, 6], [2, 6], 0)
        self.expect(UNBOUNDED, [0, 6], [GREAT, 6], 1)

    def test_bounds_do_not_matter(self):
        for bound in (-1000, -1, 0, 1, 1000):
            made = program(2, [([1, -2], bound)], [1, 1])
            self.expect(made, [2, 1], [1, 1], 1)
            self.expect(made, [3, 1], [1, 1], 0)

    def test_a_program_without_feasible_vectors_may_have_one(self):
        self.expect(program(2, [([1, 0], -1)], [0, 1]), [0, 1], [1, 1], 1)
        self.expect(program(1, [([0], -1)], [1]), [1], [1], 1)

    def test_no_constraint(self):
        for width in range(1, 6):
            self.expect(program(width, [], [1] * width), [0] * (width - 1) + [1], [1] * width, 1)
            self.expect(program(width, [], [1] * width), [0] * (width - 1) + [-1], [1] * width, 0)
            self.expect(program(width, [], [-1] * width), [1] * width, [1] * width, 0)

    def test_one_variable(self):
        made = program(1, [([-3], -7)], [2])
        self.expect(made, [1], [5], 1)
        self.expect(made, [GREAT], [1], 1)
        self.expect(made, [1], [GREAT], 1)
        self.expect(ONE, [1], [GREAT], 0)

    def test_five_variables_and_each_of_six_constraints(self):
        rows = [([-1] * 5, 3)] * 6
        self.expect(program(5, rows, [-4, 1, 1, 1, 2]), [1] * 5, [1] * 5, 1)
        self.expect(program(5, rows, [-4, 1, 1, 1, 1]), [1] * 5, [1] * 5, 0)
        for place in range(6):
            changed = list(rows)
            changed[place] = ([-4, 1, 1, 1, 1], 3)
            self.expect(program(5, changed, [-4, 1, 1, 1, 2]), [1] * 5, [1] * 5, 1)
            changed[place] = ([-4, 1, 1, 1, 2], 3)
            self.expect(program(5, changed, [-4, 1, 1, 1, 2]), [1] * 5, [1] * 5, 0)

    def test_differences_too_small_for_a_float(self):
        made = program(2, [], [1, -1])
        self.expect(made, [GREAT - 1, GREAT - 2], [GREAT, GREAT - 1], 1)
        self.expect(made, [GREAT - 2, GREAT - 1], [GREAT - 1, GREAT], 0)

    def test_wrong_vectors(self):
        for made, width in ((ONE, 1), (BARE, 2), (OPTIMAL, 2), (INFEASIBLE, 2), (UNBOUNDED, 2), (FIVE_BY_SIX, 5)):
            for nums, dens in wrong_vectors(width):
                self.expect(made, nums, dens, -22)


class CheckOptimum(CheckCase):
    CALL = "check_optimum"

    def test_the_optimum_with_the_multipliers(self):
        self.expect(OPTIMAL, [2, 2], [1, 1], [2, 1], [1, 1], 1)
        self.expect(ONE, [7], [3], [2], [3], 1)
        self.expect(FIVE_BY_SIX, [1, 2, 3, 4, 2], [1] * 5, [4, 3, 2, 1, 0, 1], [1] * 6, 1)

    def test_feasible_ones_that_are_not_equal(self):
        self.expect(OPTIMAL, [1, 3], [1, 1], [2, 1], [1, 1], 0)
        self.expect(OPTIMAL, [2, 2], [1, 1], [3, 0], [1, 1], 0)
        self.expect(OPTIMAL, [2, GREAT - 1], [1, GREAT], [2, 1], [1, 1], 0)
        self.expect(OPTIMAL, [2, 2], [1, 1], [2, GREAT], [1, GREAT - 1], 0)
        self.expect(ONE, [7], [4], [2], [3], 0)
        self.expect(FIVE_BY_SIX, [1, 2, 3, 3, 3], [1] * 5, [4, 3, 2, 1, 0, 1], [1] * 6, 0)

    def test_equal_ones_whose_first_is_not_feasible(self):
        self.expect(OPTIMAL, [3, 1], [1, 1], [5, 1], [2, 2], 0)
        self.expect(program(2, [([1, 1], 4)], [1, 1]), [-1, 5], [1, 1], [1], [1], 0)
        self.expect(program(2, [([1, 1], 4)], [1, 1]), [5, -1], [1, 1], [1], [1], 0)

    def test_equal_ones_whose_second_is_not_feasible(self):
        self.expect(OPTIMAL, [2, 2], [1, 1], [5, 0], [2, 1], 0)
        self.expect(OPTIMAL, [2, 2], [1, 1], [1, 3], [1, 1], 0)
        self.expect(OPTIMAL, [0, 0], [1, 1], [0, 0], [1, 1], 0)
        self.expect(program(1, [([1], 2), ([1], 4)], [1]), [0], [1], [2, -1], [1, 1], 0)

    def test_others_than_the_first_ones(self):
        made = program(2, [([1, 1], 4)], [1, 1])
        for nums, dens in (([4, 0], [1, 1]), ([0, 4], [1, 1]), ([2, 2], [1, 1]), ([1, 11], [3, 3])):
            self.expect(made, nums, dens, [1], [1], 1)
        made = program(1, [([1], 2), ([2], 4), ([3], 6)], [6])
        for nums, dens in (([6, 0, 0], [1] * 3), ([0, 3, 0], [1] * 3), ([0, 0, 2], [1] * 3), ([3, 1, 1], [1, 1, 3])):
            self.expect(made, [2], [1], nums, dens, 1)

    def test_denominators_that_are_not_in_lowest_terms(self):
        self.expect(OPTIMAL, [4, 6], [2, 3], [6, 7], [3, 7], 1)
        self.expect(OPTIMAL, [4, 6], [2, 3], [6, 8], [3, 7], 0)
        self.expect(ONE, [14], [6], [10], [15], 1)

    def test_values_of_0_and_below(self):
        made = program(2, [([-3, -7], -1)], [-2, -5])
        self.expect(made, [1, 0], [3, 1], [2], [3], 1)
        self.expect(made, [0, 1], [1, 7], [2], [3], 0)
        self.expect(program(2, [([1, 1], 0)], [1, 1]), [0, 0], [1, 1], [1], [1], 1)
        self.expect(program(2, [([1, 1], 0)], [1, 1]), [0, 0], [1, 1], [GREAT], [1], 1)

    def test_no_constraint(self):
        self.expect(BARE, [0, 0], [1, 1], [], [], 1)
        self.expect(BARE, [GREAT, 0], [1, 1], [], [], 1)
        self.expect(BARE, [0, 1], [1, GREAT], [], [], 0)
        self.expect(BARE, [-1, 0], [1, 1], [], [], 0)
        self.expect(program(2, [], [1, 0]), [0, 0], [1, 1], [], [], 0)
        for width in range(1, 6):
            self.expect(program(width, []), [0] * width, [1] * width, [], [], 1)

    def test_programs_that_have_none(self):
        self.expect(INFEASIBLE, [2, 2], [1, 1], [2, 1], [1, 1], 0)
        self.expect(UNBOUNDED, [3, 0], [1, 1], [1], [1], 0)

    def test_numbers_at_their_bounds(self):
        made = program(2, [([1000, 0], 1000), ([0, 0], 0)], [1000, 0])
        self.expect(made, [GREAT, GREAT], [GREAT, 1], [1, GREAT], [1, 1], 1)
        self.expect(made, [GREAT - 1, GREAT], [GREAT, 1], [1, GREAT], [1, 1], 0)
        self.expect(made, [1, LEAST], [1, 1], [1, 1], [1, 1], 0)
        self.expect(made, [1, 1], [1, 1], [1, LEAST], [1, 1], 0)

    def test_wrong_vectors(self):
        for made, width, count in ((BARE, 2, 0), (ONE, 1, 1), (OPTIMAL, 2, 2), (UNBOUNDED, 2, 1), (INFEASIBLE, 2, 2),
                                   (FIVE_BY_SIX, 5, 6)):
            for nums, dens in wrong_vectors(width):
                self.expect(made, nums, dens, [1] * count, [1] * count, -22)
            for nums, dens in wrong_vectors(count):
                self.expect(made, [0] * width, [1] * width, nums, dens, -22)
        self.expect(OPTIMAL, [], [], [], [], -22)
        self.expect(OPTIMAL, [1], [1], [1], [1], -22)

    def test_the_two_in_each_other_s_place(self):
        self.expect(FIVE_BY_SIX, [4, 3, 2, 1, 0, 1], [1] * 6, [1, 2, 3, 4, 2], [1] * 5, -22)
        self.expect(OPTIMAL, [2, 1], [1, 1], [2, 2], [1, 1], 0)


if __name__ == "__main__":
    unittest.main()
