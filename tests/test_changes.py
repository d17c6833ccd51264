"""The calls that change the instance: create, add_constraint, remove_constraint, set_objective, set_cycle."""

import unittest

from calling import ask, ask_of, program

BAD_ROWS_FOR_TWO = [
    [], [1], [1, 1, 1], [1] * 5, [1] * 10, [0] * 3, [-1001, 0], [0, -1001], [1001, 0], [0, 1001],
    [1001, -1001], [1001], [-2000] * 3,
]


class Create(unittest.TestCase):
    def test_each_number_of_variables(self):
        for variables in range(1, 6):
            given = ask(("create", variables), ("optimum",), ("corners",), ("multipliers",))
            self.assertEqual(given, [[0], [0, 0, 1] + [0, 1] * variables, [1], [0]])

    def test_numbers_just_outside(self):
        for variables in (0, 6, 7, 10, 4294967295):
            self.assertEqual(ask(("create", variables), ("status",)), [[-22], [-11]])

    def test_begins_without_constraints(self):
        given = ask(("create", 2), ("remove_constraint", 0), ("refutation",), ("is_feasible", [9, 9], [1, 1]))
        self.assertEqual(given, [[0], [-2], [-33], [1]])

    def test_begins_with_an_objective_of_0(self):
        given = ask(("create", 2), ("status",), ("add_constraint", 3, [1, 1]), ("optimum",))
        self.assertEqual(given, [[0], [0], [0], [0, 0, 1, 0, 1, 0, 1]])

    def test_replaces_an_instance(self):
        made = program(2, [([1, 1], 4), ([-1, 0], -1)], [3, 2]) + [("set_cycle", 1, 2, [1])]
        given = ask_of(made, ("create", 2), ("remove_constraint", 0), ("status",), ("optimum",),
                       ("is_feasible", [0, 9], [1, 1]), ("add_constraint", 5, [1, 0]), ("optimum",))
        self.assertEqual(given, [[0], [-2], [0], [0, 0, 1, 0, 1, 0, 1], [1], [0], [0, 0, 1, 0, 1, 0, 1]])

    def test_replaces_an_instance_by_one_of_another_size(self):
        made = program(2, [([1, 1], 4)], [3, 2])
        given = ask_of(made, ("create", 3), ("optimum",), ("set_objective", [1, 1]), ("set_objective", [1, 1, 1]),
                       ("add_constraint", 4, [1, 1]), ("add_constraint", 4, [1, 1, 1]), ("optimum",))
        self.assertEqual(given, [[0], [0, 0, 1, 0, 1, 0, 1, 0, 1], [-22], [0], [-22], [0],
                                 [0, 4, 1, 0, 1, 0, 1, 4, 1]])

    def test_one_that_fails_keeps_the_instance(self):
        made = program(2, [([1, 1], 4), ([1, 0], 2)], [3, 2])
        for variables in (0, 6, 4294967295):
            given = ask_of(made, ("create", variables), ("optimum",), ("multipliers",), ("remove_constraint", 0))
            self.assertEqual(given, [[-22], [0, 10, 1, 2, 1, 2, 1], [2, 2, 1, 1, 1], [1]])


class AddConstraint(unittest.TestCase):
    def test_numbers_go_up_from_0_to_5(self):
        given = ask(("create", 2), *[("add_constraint", 10 - k, [1, k]) for k in range(6)])
        self.assertEqual(given, [[0], [0], [1], [2], [3], [4], [5]])

    def test_the_seventh_is_refused(self):
        made = program(2, [([1, k], 10) for k in range(6)])
        for bound in (-1000, -1, 0, 10, 1000):
            self.assertEqual(ask_of(made, ("add_constraint", bound, [1, 1])), [[-28]])

    def test_bad_arguments_come_before_too_many(self):
        made = program(2, [([1, k], 10) for k in range(6)])
        for row in BAD_ROWS_FOR_TWO:
            self.assertEqual(ask_of(made, ("add_constraint", 1, row)), [[-22]], row)
        for bound in (-1001, 1001):
            self.assertEqual(ask_of(made, ("add_constraint", bound, [1, 1])), [[-22]], bound)

    def test_a_seventh_after_one_was_removed(self):
        made = program(1, [([1], k + 1) for k in range(6)], [1])
        given = ask_of(made, ("add_constraint", 0, [1]), ("remove_constraint", 3), ("add_constraint", 0, [1]),
                       ("add_constraint", 0, [1]), ("optimum",))
        self.assertEqual(given, [[-28], [5], [5], [-28], [0, 0, 1, 0, 1]])

    def test_the_ends_of_the_ranges(self):
        self.assertEqual(ask(("create", 1), ("add_constraint", 1000, [1]), ("set_objective", [1]), ("optimum",)),
                         [[0], [0], [0], [0, 1000, 1, 1000, 1]])
        self.assertEqual(ask(("create", 1), ("add_constraint", -1000, [-1]), ("set_objective", [-1]), ("optimum",)),
                         [[0], [0], [0], [0, -1000, 1, 1000, 1]])
        self.assertEqual(ask(("create", 1), ("add_constraint", 1, [1000]), ("set_objective", [1]), ("optimum",)),
                         [[0], [0], [0], [0, 1, 1000, 1, 1000]])
        self.assertEqual(ask(("create", 1), ("add_constraint", -1, [-1000]), ("set_objective", [-1]), ("optimum",)),
                         [[0], [0], [0], [0, -1, 1000, 1, 1000]])
        self.assertEqual(ask(("create", 5), ("add_constraint", -1000, [-1000] * 5),
                             ("add_constraint", 1000, [1000] * 5)), [[0], [0], [1]])

    def test_just_outside_the_ranges(self):
        for variables in range(1, 6):
            for place in range(variables):
                for number in (-1001, 1001):
                    row = [0] * variables
                    row[place] = number
                    self.assertEqual(ask(("create", variables), ("add_constraint", 0, row)), [[0], [-22]])
            for bound in (-1001, 1001):
                self.assertEqual(ask(("create", variables), ("add_constraint", bound, [0] * variables)), [[0], [-22]])

    def test_rows_of_wrong_lengths(self):
        for variables in range(1, 6):
            for length in range(11):
                expected = [0] if length == variables else [-22]
                self.assertEqual(ask(("create", variables), ("add_constraint", 0, [0] * length)), [[0], expected])

    def test_one_that_is_refused_takes_no_number(self):
        given = ask(("create", 2), ("add_constraint", 1, [1]), ("add_constraint", 1, [1, 1]),
                    ("add_constraint", 1001, [1, 1]), ("add_constraint", 1, [1, 1]), ("remove_constraint", 2))
        self.assertEqual(given, [[0], [-22], [0], [-22], [1], [-2]])

    def test_equal_constraints_are_all_kept(self):
        given = ask(*program(1, [([1], 2)] * 3, [1]), ("multipliers",), ("remove_constraint", 0),
                    ("remove_constraint", 0), ("optimum",))
        self.assertEqual(given[5:], [[3, 0, 1, 0, 1, 1, 1], [2], [1], [0, 2, 1, 2, 1]])


class RemoveConstraint(unittest.TestCase):
    def test_counts_what_remains(self):
        made = program(1, [([1], k) for k in range(6)])
        given = ask_of(made, *[("remove_constraint", 0)] * 7)
        self.assertEqual(given, [[5], [4], [3], [2], [1], [0], [-2]])

    def test_there_is_none(self):
        for place in (0, 1, 5, 6, 4294967295):
            self.assertEqual(ask(("create", 2), ("remove_constraint", place)), [[0], [-2]])

    def test_the_last_number_and_the_one_behind_it(self):
        for count in range(1, 7):
            made = program(1, [([1], k) for k in range(count)])
            for place in (count, count + 1, 2147483648, 4294967295):
                self.assertEqual(ask_of(made, ("remove_constraint", place)), [[-2]])
            self.assertEqual(ask_of(made, ("remove_constraint", count - 1)), [[count - 1]])

    def test_removes_the_one_that_is_named(self):
        bounds = [7, 3, 5, 2, 6, 4]
        for place in range(6):
            rows = [([1 if k == j else 0 for j in range(5)], bounds[k]) for k in range(5)] + [([1] * 5, bounds[5])]
            made = program(5, rows) + [("remove_constraint", place)]
            outside = [[bounds[k] + 1 if k == j else 0 for j in range(5)] for k in range(5)]
            given = ask_of(made, ("is_feasible", [1, 1, 1, 1, 1], [1] * 5),
                           *[("is_feasible", nums, [1] * 5) for nums in outside])
            others = [1 if place == k and bounds[k] + 1 <= bounds[5] else 0 for k in range(5)]
            self.assertEqual(given, [[1 if place == 5 else 0]] + [[other] for other in others])

    def test_the_numbers_behind_it_decrease(self):
        made = program(1, [([1], 9), ([1], 7), ([1], 5), ([1], 3)], [1])
        given = ask_of(made, ("multipliers",), ("remove_constraint", 1), ("multipliers",), ("remove_constraint", 2),
                       ("multipliers",), ("optimum",), ("remove_constraint", 2), ("remove_constraint", 1),
                       ("multipliers",), ("optimum",))
        self.assertEqual(given, [
            [4, 0, 1, 0, 1, 0, 1, 1, 1], [3], [3, 0, 1, 0, 1, 1, 1], [2], [2, 0, 1, 1, 1], [0, 5, 1, 5, 1],
            [-2], [1], [1, 1, 1], [0, 9, 1, 9, 1],
        ])

    def test_a_new_one_stands_behind_the_others(self):
        made = program(1, [([1], 9), ([1], 7), ([1], 5)], [1])
        given = ask_of(made, ("remove_constraint", 0), ("add_constraint", 2, [1]), ("multipliers",))
        self.assertEqual(given, [[2], [2], [3, 0, 1, 0, 1, 1, 1]])


class SetObjective(unittest.TestCase):
    def test_replaces_the_objective(self):
        made = program(2, [([1, 1], 4), ([1, 0], 3)], [3, 2])
        given = ask_of(made, ("optimum",), ("set_objective", [0, 1]), ("optimum",), ("set_objective", [0, 0]),
                       ("optimum",), ("set_objective", [-1, -2]), ("optimum",))
        self.assertEqual(given, [[0, 11, 1, 3, 1, 1, 1], [0], [0, 4, 1, 0, 1, 4, 1], [0], [0, 0, 1, 0, 1, 0, 1],
                                 [0], [0, 0, 1, 0, 1, 0, 1]])

    def test_the_ends_of_the_range(self):
        made = program(2, [([1, 1], 1)])
        given = ask_of(made, ("set_objective", [1000, -1000]), ("optimum",), ("set_objective", [-1000, 1000]),
                       ("optimum",))
        self.assertEqual(given, [[0], [0, 1000, 1, 1, 1, 0, 1], [0], [0, 1000, 1, 0, 1, 1, 1]])

    def test_bad_rows(self):
        for row in BAD_ROWS_FOR_TWO:
            given = ask(*program(2, [([1, 1], 4)], [3, 2]), ("set_objective", row), ("optimum",))
            self.assertEqual(given[3:], [[-22], [0, 12, 1, 4, 1, 0, 1]], row)

    def test_rows_of_wrong_lengths(self):
        for variables in range(1, 6):
            for length in range(11):
                expected = [0] if length == variables else [-22]
                self.assertEqual(ask(("create", variables), ("set_objective", [1] * length)), [[0], expected])

    def test_leaves_the_constraints(self):
        made = program(1, [([1], 9), ([1], 7)]) + [("set_objective", [2])]
        self.assertEqual(ask_of(made, ("multipliers",), ("remove_constraint", 2), ("remove_constraint", 1)),
                         [[2, 0, 1, 2, 1], [-2], [1]])


class SetCycle(unittest.TestCase):
    def test_good_ones(self):
        for think in (0, 1, 9999, 10000):
            for customers in (1, 2, 39, 40):
                for demands in ([1], [1000], [1, 1000], [5] * 7, [1000] * 8, [1] * 8):
                    call = ("set_cycle", think, customers, demands)
                    self.assertEqual(ask(("create", 1), call, call), [[0], [0], [0]], call)

    def test_bad_ones(self):
        for call in [
            ("set_cycle", 10001, 1, [1]), ("set_cycle", 4294967295, 1, [1]), ("set_cycle", 0, 0, [1]),
            ("set_cycle", 0, 41, [1]), ("set_cycle", 0, 4294967295, [1]), ("set_cycle", 0, 1, []),
            ("set_cycle", 0, 1, [1] * 9), ("set_cycle", 0, 1, [1] * 10), ("set_cycle", 0, 1, [0]),
            ("set_cycle", 0, 1, [1001]), ("set_cycle", 0, 1, [1, 2, 0]), ("set_cycle", 0, 1, [1, 2, 1001]),
            ("set_cycle", 0, 1, [0, 1, 2]), ("set_cycle", 0, 1, [4294967295] * 8), ("set_cycle", 10001, 41, []),
        ]:
            self.assertEqual(ask(("create", 1), call), [[0], [-22]], call)
            self.assertEqual(ask(("create", 1), ("set_cycle", 3, 4, [5]), call), [[0], [0], [-22]], call)

    def test_needs_no_program_of_the_same_size(self):
        self.assertEqual(ask(("create", 1), ("set_cycle", 1, 1, [1] * 8), ("create", 5), ("set_cycle", 1, 1, [1])),
                         [[0]] * 4)

    def test_leaves_the_program(self):
        made = program(2, [([1, 1], 4), ([1, 0], 2)], [3, 2])
        for call in (("set_cycle", 7, 8, [9, 10]), ("set_cycle", 7, 0, [9, 10])):
            given = ask_of(made, call, ("optimum",), ("multipliers",), ("corners",))
            self.assertEqual(given[1:], [[0, 10, 1, 2, 1, 2, 1], [2, 2, 1, 1, 1], [4]])


if __name__ == "__main__":
    unittest.main()
