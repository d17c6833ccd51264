"""A call that answers an error changes nothing, and so do the calls from number 5 on."""

import unittest

from calling import ask, program

OPTIMAL = program(2, [([1, 1], 4), ([1, 0], 2), ([0, 1], 3)], [3, 2])
INFEASIBLE = program(2, [([1, 1], 4), ([-1, -1], -5)], [3, 2])
UNBOUNDED = program(2, [([1, -2], 3)], [3, 2])
FULL = program(2, [([1, k], 10 - k) for k in range(6)], [3, 2])
BARE = program(2, [])

ASKED = [("status",), ("optimum",), ("multipliers",), ("refutation",), ("ray",), ("corners",),
         ("is_feasible", [2, 2], [1, 1]), ("is_feasible", [3, 2], [1, 2]), ("is_feasible", [1, 7], [2, 2])]
# These show the state down to the order of the constraints, and end it.
TAKEN_APART = [("remove_constraint", 0), ("corners",), ("multipliers",), ("add_constraint", 1, [1, 1]),
               ("multipliers",), ("remove_constraint", 1), ("optimum",)]

WRONG = [
    (("create", 0), -22), (("create", 6), -22), (("create", 4294967295), -22),
    (("add_constraint", 1, [1]), -22), (("add_constraint", 1, []), -22), (("add_constraint", 1, [1, 1, 1]), -22),
    (("add_constraint", 1001, [1, 1]), -22), (("add_constraint", -1001, [1, 1]), -22),
    (("add_constraint", 1, [1001, 1]), -22), (("add_constraint", 1, [1, -1001]), -22),
    (("remove_constraint", 6), -2), (("remove_constraint", 4294967295), -2),
    (("set_objective", []), -22), (("set_objective", [7]), -22), (("set_objective", [7, 7, 7]), -22),
    (("set_objective", [-7, 1001]), -22), (("set_objective", [-1001, 7]), -22),
    (("set_cycle", 10001, 1, [1]), -22), (("set_cycle", 1, 0, [1]), -22), (("set_cycle", 1, 41, [1]), -22),
    (("set_cycle", 1, 1, []), -22), (("set_cycle", 1, 1, [0]), -22), (("set_cycle", 1, 1, [1001]), -22),
    (("is_feasible", [1], [1]), -22), (("is_feasible", [1, 1], [1, 0]), -22), (("is_feasible", [], []), -22),
]


class ErrorsLeaveAllAsItWas(unittest.TestCase):
    def check(self, made, call, code):
        shown = ask(*made, *ASKED, *TAKEN_APART)
        given = ask(*made, call, *ASKED, *TAKEN_APART)
        self.assertEqual(given[len(made)], [code], call)
        self.assertEqual(given[:len(made)] + given[len(made) + 1:], shown, call)

    def test_each_error(self):
        for made in (OPTIMAL, INFEASIBLE, UNBOUNDED, BARE, FULL):
            for call, code in WRONG:
                self.check(made, call, code)

    def test_too_many_constraints(self):
        for bound in (-1000, 0, 1000):
            self.check(FULL, ("add_constraint", bound, [1, 1]), -28)

    def test_removing_behind_the_last(self):
        for made, count in ((OPTIMAL, 3), (INFEASIBLE, 2), (UNBOUNDED, 1), (BARE, 0)):
            self.check(made, ("remove_constraint", count), -2)

    def test_certificates_that_do_not_exist(self):
        for made, names in (
            (OPTIMAL, ["refutation", "ray"]), (INFEASIBLE, ["optimum", "multipliers", "ray"]),
            (UNBOUNDED, ["optimum", "multipliers", "refutation"]), (BARE, ["refutation", "ray"]),
        ):
            for name in names:
                self.check(made, (name,), -33)

    def test_many_errors_one_after_another(self):
        made = OPTIMAL
        shown = ask(*made, *ASKED, *TAKEN_APART)
        calls = [call for call, _ in WRONG]
        given = ask(*made, *calls, *ASKED, *TAKEN_APART)
        end = len(made) + len(calls)
        self.assertEqual(given[len(made):end], [[code] for _, code in WRONG])
        self.assertEqual(given[:len(made)] + given[end:], shown)

    def test_a_bad_call_before_each_step(self):
        made = OPTIMAL + ASKED
        shown = ask(*made)
        calls = [("set_objective", [9, 9])]
        for call in made:
            calls += [call, ("add_constraint", -1000, [1, 1, 1])]
        given = ask(*calls)
        self.assertEqual(given[1::2], shown)
        self.assertEqual(given[0::2], [[-11]] + [[-22]] * len(made))


class AskingChangesNothing(unittest.TestCase):
    def test_each_call_from_number_5_on(self):
        for made in (OPTIMAL, INFEASIBLE, UNBOUNDED, BARE, FULL):
            shown = ask(*made, *ASKED, *TAKEN_APART)
            for call in ASKED:
                given = ask(*made, call, call, *ASKED, *TAKEN_APART)
                self.assertEqual(given[:len(made)] + given[len(made) + 2:], shown, call)

    def test_asked_again_and_again(self):
        for made in (OPTIMAL, INFEASIBLE, UNBOUNDED, BARE, FULL):
            given = ask(*made, *ASKED * 4)[len(made):]
            first = given[:len(ASKED)]
            self.assertEqual(given, first * 4)

    def test_asked_between_the_changes(self):
        for made in (OPTIMAL, INFEASIBLE, UNBOUNDED, BARE):
            calls = []
            for call in made:
                calls += [call] + ASKED[1:5]
            shown = ask(*made, *ASKED, *TAKEN_APART)
            given = ask(*calls, *ASKED, *TAKEN_APART)
            self.assertEqual(given[len(calls):], shown[len(made):])


if __name__ == "__main__":
    unittest.main()
