"""Compares the answers with those that the document's terms give, worked out word by word with fractions."""

import itertools
import unittest
from fractions import Fraction

from calling import ask_of, feasible, fractions, mixed_programs, program, times, written


def only_solution(equations, width):
    """The only solution of the equations, or None; an equation is a pair of coefficients and right side."""
    rows = [[Fraction(number) for number in coefficients] + [Fraction(side)] for coefficients, side in equations]
    for column in range(width):
        place = next((k for k in range(column, width) if rows[k][column] != 0), None)
        if place is None:
            return None
        rows[column], rows[place] = rows[place], rows[column]
        pivot = rows[column][column]
        rows[column] = [number / pivot for number in rows[column]]
        for k in range(width):
            factor = rows[k][column]
            if k != column and factor != 0:
                rows[k] = [a - factor * b for a, b in zip(rows[k], rows[column])]
    return tuple(row[-1] for row in rows)


def corners(width, constraints):
    conditions = list(constraints)
    for place in range(width):
        conditions.append(([1 if k == place else 0 for k in range(width)], 0))
    found = set()
    for chosen in itertools.combinations(conditions, width):
        vector = only_solution(chosen, width)
        if vector is not None and vector not in found and feasible(constraints, vector):
            found.add(vector)
    return found


def first_best(vectors, goal):
    greatest = max(times(goal, vector) for vector in vectors)
    return min(vector for vector in vectors if times(goal, vector) == greatest)


def with_sum_1(width, rows):
    return [(row, 0) for row in rows] + [([1] * width, 1), ([-1] * width, -1)]


def expected(width, constraints, goal):
    """The answers of status, optimum, multipliers, refutation, ray and corners."""
    columns = [[row[j] for row, _ in constraints] for j in range(width)]
    bounds = [bound for _, bound in constraints]
    negated = [[-number for number in column] for column in columns]
    count = len(constraints)
    all_corners = corners(width, constraints)
    rays = corners(width, with_sum_1(width, [row for row, _ in constraints]))
    candidates = corners(count, with_sum_1(count, negated))
    refutations = [vector for vector in candidates if times(bounds, vector) < 0]
    status = 0
    if not all_corners:
        status = 1
    elif any(times(goal, vector) > 0 for vector in rays):
        status = 2
    optimum = multipliers = ray = refutation = [-33]
    if status == 0:
        best = first_best(all_corners, goal)
        optimum = [0] + written([times(goal, best)]) + written(best)
        dual = corners(count, [(row, -c) for row, c in zip(negated, goal)])
        multipliers = [count] + written(first_best(dual, [-bound for bound in bounds]))
    if status == 2:
        ray = [width] + written(first_best(rays, goal))
    if refutations:
        refutation = [count] + written(min(refutations))
    return [[status], optimum, multipliers, refutation, ray, [len(all_corners)]]


ASKED = [("status",), ("optimum",), ("multipliers",), ("refutation",), ("ray",), ("corners",)]


SMALL = [(n, m) for n in range(1, 6) for m in range(0, 7) if n + m <= 7]


class ByDefinition(unittest.TestCase):
    def check(self, programs):
        seen = set()
        for width, constraints, goal in programs:
            answers = ask_of(program(width, constraints, goal), *ASKED)
            wanted = expected(width, constraints, goal)
            seen.add(wanted[0][0])
            for call, answer, want in zip(ASKED, answers, wanted):
                self.assertEqual(answer, want, (call, width, constraints, goal))
        return seen

    def test_small_numbers(self):
        self.assertEqual(self.check(mixed_programs(100, 1, SMALL, 2, (-1, 3))), {0, 1, 2})

    def test_many_zeros(self):
        self.assertEqual(self.check(mixed_programs(80, 2, SMALL, 1, (-1, 1))), {0, 1, 2})

    def test_bounds_of_0(self):
        self.check(mixed_programs(60, 3, SMALL, 2, (0, 0)))

    def test_medium_numbers(self):
        self.assertEqual(self.check(mixed_programs(80, 4, SMALL, 20, (-10, 30))), {0, 1, 2})

    def test_great_numbers(self):
        self.assertEqual(self.check(mixed_programs(80, 5, SMALL, 1000, (-400, 1000))), {0, 1, 2})

    def test_the_greatest_sizes(self):
        self.check(mixed_programs(2, 6, [(5, 6)], 1000, (-100, 1000)))
        self.check(mixed_programs(3, 7, [(5, 6), (4, 6), (5, 5)], 1, (-1, 1)))

    def test_bounded_programs_with_great_numbers(self):
        programs = []
        for width, constraints, goal in mixed_programs(24, 8, [(2, 3), (3, 3), (4, 3), (5, 2)], 1000, (1, 1000)):
            positive = [([abs(number) + 1 - abs(number) // 1000 for number in row], bound) for row, bound in constraints]
            programs.append((width, positive, [abs(number) for number in goal]))
        self.assertEqual(self.check(programs), {0})

    def test_equal_goal_and_constraint(self):
        programs = []
        for width, constraints, _ in mixed_programs(40, 9, [(2, 3), (3, 3), (2, 4), (3, 2)], 2, (-1, 4)):
            programs.append((width, constraints, constraints[0][0]))
        self.check(programs)


class Certificates(unittest.TestCase):
    """The document's points 2, 3 and 4, checked on what is answered alone."""

    PROGRAMS = mixed_programs(120, 10, [(n, m) for n in range(1, 6) for m in range(0, 7)], 3, (-2, 5))

    def test_optimality(self):
        count = 0
        for width, constraints, goal in self.PROGRAMS:
            status, optimum, multipliers = ask_of(program(width, constraints, goal), *ASKED[:3])
            if status != [0]:
                continue
            count += 1
            value, *vector = fractions(optimum[1:])
            weights = fractions(multipliers[1:])
            self.assertEqual((optimum[0], len(vector)), (0, width))
            self.assertEqual((multipliers[0], len(weights)), (len(constraints), len(constraints)))
            self.assertTrue(feasible(constraints, vector))
            self.assertEqual(times(goal, vector), value)
            self.assertTrue(all(weight >= 0 for weight in weights))
            for j in range(width):
                self.assertGreaterEqual(times([row[j] for row, _ in constraints], weights), goal[j])
            self.assertEqual(times([bound for _, bound in constraints], weights), value)
        self.assertGreater(count, 30)

    def test_no_feasible_vector_is_better(self):
        for width, constraints, goal in self.PROGRAMS:
            if width > 3:
                continue
            made = program(width, constraints, goal)
            status, optimum = ask_of(made, *ASKED[:2])
            if status == [0]:
                value = fractions(optimum[1:])[0]
                for vector in itertools.product([Fraction(k, 2) for k in range(5)], repeat=width):
                    if feasible(constraints, vector):
                        self.assertLessEqual(times(goal, vector), value)

    def test_infeasibility(self):
        seen = set()
        for width, constraints, goal in self.PROGRAMS:
            status, refutation, count = ask_of(program(width, constraints, goal), ASKED[0], ASKED[3], ASKED[5])
            self.assertEqual(status == [1], refutation != [-33])
            self.assertEqual(status == [1], count == [0])
            seen.add(status == [1])
            if status == [1]:
                weights = fractions(refutation[1:])
                self.assertEqual((refutation[0], len(weights)), (len(constraints), len(constraints)))
                self.assertTrue(all(weight >= 0 for weight in weights))
                self.assertEqual(sum(weights), 1)
                for j in range(width):
                    self.assertGreaterEqual(times([row[j] for row, _ in constraints], weights), 0)
                self.assertLess(times([bound for _, bound in constraints], weights), 0)
        self.assertEqual(seen, {True, False})

    def test_unboundedness(self):
        seen = set()
        for width, constraints, goal in self.PROGRAMS:
            status, optimum, ray = ask_of(program(width, constraints, goal), ASKED[0], ASKED[1], ASKED[4])
            self.assertEqual(status == [2], ray != [-33])
            self.assertEqual(status == [0], optimum != [-33])
            seen.add(status[0])
            if status == [2]:
                direction = fractions(ray[1:])
                self.assertEqual((ray[0], len(direction)), (width, width))
                self.assertEqual(sum(direction), 1)
                self.assertTrue(feasible([(row, 0) for row, _ in constraints], direction))
                self.assertGreater(times(goal, direction), 0)
        self.assertEqual(seen, {0, 1, 2})

    def test_what_is_answered_is_feasible(self):
        for width, constraints, goal in self.PROGRAMS:
            made = program(width, constraints, goal)
            optimum = ask_of(made, ("optimum",))[0]
            if optimum != [-33]:
                nums, dens = optimum[3::2], optimum[4::2]
                if max(nums + dens) < 2 ** 31:
                    self.assertEqual(ask_of(made, ("is_feasible", nums, dens)), [[1]])


if __name__ == "__main__":
    unittest.main()
