"""The document's points 1 to 4 from call to call, and the checks of vectors by the words of its terms."""

import unittest
from fractions import Fraction

from calling import Numbers, ask_of, feasible, fractions, mixed_programs, parted, program, times, written

SIZES = [(n, m) for n in range(1, 6) for m in range(0, 7)]
PROGRAMS = mixed_programs(140, 21, SIZES, 3, (-2, 5)) + mixed_programs(60, 22, [(2, 2), (2, 3), (3, 2)], 1, (-1, 1))
HALVES = [Fraction(k, 2) for k in range(4)]


def column(constraints, place):
    return [row[place] for row, _ in constraints]


def proves(constraints, goal, weights):
    """Whether the weights are feasible in the dual program."""
    sums = [times(column(constraints, place), weights) for place in range(len(goal))]
    return all(weight >= 0 for weight in weights) and all(total >= c for total, c in zip(sums, goal))


def refutes(constraints, width, weights):
    bound = times([bound for _, bound in constraints], weights)
    return proves(constraints, [0] * width, weights) and bound < 0


def improves(constraints, goal, direction):
    return feasible([(row, 0) for row, _ in constraints], direction) and times(goal, direction) > 0


def mixed_vector(numbers, width, least):
    return [Fraction(numbers.between(least, 6), numbers.between(1, 4)) for _ in range(width)]


def vectors_for(numbers, width, found):
    """Vectors of this width: mixed ones, and some that lie about those that were found, if any were."""
    vectors = [mixed_vector(numbers, width, least) for least in (-3, 0, 0, 0)] + [[Fraction(0)] * width]
    for vector in found:
        vectors += [[part * factor for part in vector] for factor in HALVES]
        vectors.append([part + more for part, more in zip(vector, mixed_vector(numbers, width, 0))])
        for place in range(width):
            moved = list(vector)
            moved[place] += Fraction(1, 9) if place % 2 == 0 else Fraction(-1, 9)
            vectors.append(moved)
    return vectors


def scaled(vector, factor):
    """The vector as it is handed in, with denominators that aren't in lowest terms where the factor isn't 1."""
    nums, dens = parted(vector)
    return [num * factor for num in nums], [den * factor for den in dens]


class Case:
    """A program with vectors for its variables and weights for its constraints."""

    def __init__(self, made, numbers):
        self.width, self.constraints, self.goal = made
        self.calls = program(*made)
        asked = ask_of(self.calls, ("optimum",), ("ray",), ("multipliers",), ("refutation",))
        optimum, ray, multipliers, refutation = asked
        points = [fractions(optimum[3:])] if optimum != [-33] else []
        points += [fractions(ray[1:])] if ray != [-33] else []
        weights = [fractions(answer[1:]) for answer in (multipliers, refutation) if answer != [-33]]
        self.vectors = vectors_for(numbers, self.width, points)
        self.weights = vectors_for(numbers, len(self.constraints), weights)

    def answers(self, calls):
        found = []
        for place in range(0, len(calls), 40):
            found += ask_of(self.calls, *calls[place:place + 40])
        return found


def all_cases():
    numbers = Numbers(23)
    return [Case(made, numbers) for made in PROGRAMS]


CASES = all_cases()


class ByTheTerms(unittest.TestCase):
    def check(self, case, calls, expected):
        for call, answer, want in zip(calls, case.answers(calls), expected, strict=True):
            self.assertEqual(answer, want, (case.calls, call))

    def test_slack(self):
        for case in CASES:
            calls, expected = [], []
            for vector in case.vectors:
                for place, (row, bound) in enumerate(case.constraints):
                    calls.append(("slack", place, *scaled(vector, place + 1)))
                    expected.append([0] + written([bound - times(row, vector)]))
            self.check(case, calls, expected)

    def test_check_bound(self):
        seen = {True: 0, False: 0}
        for case in CASES:
            calls = [("check_bound", *scaled(weights, 2)) for weights in case.weights]
            expected = []
            for weights in case.weights:
                good = proves(case.constraints, case.goal, weights)
                seen[good] += 1
                bound = times([bound for _, bound in case.constraints], weights)
                expected.append([0] + written([bound]) if good else [-33])
            self.check(case, calls, expected)
        self.assertGreater(min(seen.values()), 300)

    def test_check_refutation(self):
        seen = {True: 0, False: 0}
        for case in CASES:
            calls = [("check_refutation", *scaled(weights, 3)) for weights in case.weights]
            good = [refutes(case.constraints, case.width, weights) for weights in case.weights]
            self.check(case, calls, [[1] if one else [0] for one in good])
            for one in good:
                seen[one] += 1
        self.assertGreater(min(seen.values()), 100)

    def test_check_ray(self):
        seen = {True: 0, False: 0}
        for case in CASES:
            calls = [("check_ray", *scaled(vector, 5)) for vector in case.vectors]
            good = [improves(case.constraints, case.goal, vector) for vector in case.vectors]
            self.check(case, calls, [[1] if one else [0] for one in good])
            for one in good:
                seen[one] += 1
        self.assertGreater(min(seen.values()), 300)

    def test_check_optimum(self):
        seen = {}
        for case in CASES:
            calls, expected = [], []
            for vector in case.vectors:
                for weights in case.weights[::2]:
                    bound = times([bound for _, bound in case.constraints], weights)
                    each = (feasible(case.constraints, vector), proves(case.constraints, case.goal, weights),
                            times(case.goal, vector) == bound)
                    seen[each] = seen.get(each, 0) + 1
                    calls.append(("check_optimum", *scaled(vector, 2), *scaled(weights, 3)))
                    expected.append([1] if all(each) else [0])
            self.check(case, calls, expected)
        self.assertEqual(len(seen), 8)
        self.assertGreater(min(seen.values()), 20)


class Bounds(unittest.TestCase):
    def test_no_feasible_vector_has_a_greater_value_than_a_proven_bound(self):
        pairs = 0
        for case in CASES:
            kept = case.answers([("is_feasible", *parted(vector)) for vector in case.vectors])
            given = case.answers([("check_bound", *parted(weights)) for weights in case.weights])
            values = [times(case.goal, vector) for vector, one in zip(case.vectors, kept) if one == [1]]
            bounds = [fractions(answer[1:])[0] for answer in given if answer != [-33]]
            pairs += len(values) * len(bounds)
            if values and bounds:
                self.assertLessEqual(max(values), min(bounds), case.calls)
        self.assertGreater(pairs, 2000)


class Optimality(unittest.TestCase):
    def test_the_optimum_and_the_multipliers_prove_one_another(self):
        count = 0
        for case in CASES:
            optimum, multipliers = case.answers([("optimum",), ("multipliers",)])
            self.assertEqual(optimum == [-33], multipliers == [-33])
            if optimum == [-33]:
                continue
            count += 1
            point, weights = parted(fractions(optimum[3:])), parted(fractions(multipliers[1:]))
            given = case.answers([("check_optimum", *point, *weights), ("check_bound", *weights),
                                  ("is_feasible", *point)])
            self.assertEqual(given, [[1], optimum[:3], [1]], case.calls)
        self.assertGreater(count, 50)

    def test_without_an_optimum_nothing_is_proven(self):
        for case in CASES:
            status = case.answers([("status",)])[0]
            if status == [0]:
                continue
            pairs = [(vector, weights) for vector in case.vectors for weights in case.weights]
            given = case.answers([("check_optimum", *parted(vector), *parted(weights)) for vector, weights in pairs])
            self.assertNotIn([1], given, case.calls)

    def test_no_feasible_vector_is_better(self):
        for case in CASES:
            optimum = case.answers([("optimum",)])[0]
            if optimum == [-33]:
                continue
            value = fractions(optimum[1:3])[0]
            given = case.answers([("is_feasible", *parted(vector)) for vector in case.vectors])
            for vector, answer in zip(case.vectors, given):
                if answer == [1]:
                    self.assertLessEqual(times(case.goal, vector), value, case.calls)


class Infeasibility(unittest.TestCase):
    def test_the_refutation_is_one(self):
        count = 0
        for case in CASES:
            status, refutation, corners = case.answers([("status",), ("refutation",), ("corners",)])
            self.assertEqual(status == [1], refutation != [-33], case.calls)
            self.assertEqual(status == [1], corners == [0], case.calls)
            if refutation != [-33]:
                count += 1
                weights = parted(fractions(refutation[1:]))
                self.assertEqual(case.answers([("check_refutation", *weights)]), [[1]], case.calls)
        self.assertGreater(count, 30)

    def test_what_has_a_feasible_vector_has_no_refutation(self):
        both = 0
        for case in CASES:
            kept = case.answers([("is_feasible", *parted(vector)) for vector in case.vectors])
            given = case.answers([("check_refutation", *parted(weights)) for weights in case.weights])
            self.assertFalse([1] in kept and [1] in given, case.calls)
            both += [1] in kept or [1] in given
        self.assertGreater(both, 120)


class Unboundedness(unittest.TestCase):
    def test_the_ray_is_an_improving_direction(self):
        count = 0
        for case in CASES:
            status, ray = case.answers([("status",), ("ray",)])
            self.assertEqual(status == [2], ray != [-33], case.calls)
            if ray != [-33]:
                count += 1
                self.assertEqual(case.answers([("check_ray", *parted(fractions(ray[1:])))]), [[1]], case.calls)
        self.assertGreater(count, 30)

    def test_what_has_an_optimum_has_no_improving_direction(self):
        for case in CASES:
            if case.answers([("status",)])[0] == [0]:
                given = case.answers([("check_ray", *parted(vector)) for vector in case.vectors])
                self.assertNotIn([1], given, case.calls)


if __name__ == "__main__":
    unittest.main()
