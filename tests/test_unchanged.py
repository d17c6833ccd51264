"""A call that answers an error changes nothing, and so do the calls from number 5 on."""

import unittest

from calling import ask, program

CYCLE = [("set_cycle", 10, 3, [2, 3])]
OPTIMAL = program(2, [([1, 1], 4), ([1, 0], 2), ([0, 1], 3)], [3, 2]) + CYCLE
INFEASIBLE = program(2, [([1, 1], 4), ([-1, -1], -5)], [3, 2]) + CYCLE
UNBOUNDED = program(2, [([1, -2], 3)], [3, 2])
FULL = program(2, [([1, k], 10 - k) for k in range(6)], [3, 2]) + CYCLE
BARE = program(2, [])
# How each of them is made, how many constraints it has, and whether it has a cycle.
STATES = [(OPTIMAL, 3, True), (INFEASIBLE, 2, True), (UNBOUNDED, 1, False), (FULL, 6, True), (BARE, 0, False)]

OF_PROGRAM = [("status",), ("optimum",), ("multipliers",), ("refutation",), ("ray",), ("corners",),
              ("is_feasible", [2, 2], [1, 1]), ("is_feasible", [3, 2], [1, 2]), ("is_feasible", [1, 7], [2, 2]),
              ("slack", 0, [1, 1], [2, 3]), ("check_ray", [0, 3], [1, 1]), ("check_ray", [-1, 3], [2, 4])]
OF_CYCLE = [("asymptotic",), ("balanced",), ("exact",), ("saturation",), ("exact_curve", 2), ("exact_curve", 12),
            ("summary",)]
ASKED = OF_PROGRAM + OF_CYCLE
# These show the state down to the order of the constraints, and end it.
TAKEN_APART = [("remove_constraint", 0), ("corners",), ("multipliers",), ("add_constraint", 1, [1, 1]),
               ("multipliers",), ("remove_constraint", 1), ("optimum",)]
SHOWN = ASKED + TAKEN_APART

WRONG = [
    (("create", 0), -22), (("create", 6), -22), (("create", 4294967295), -22),
    (("add_constraint", 1, [1]), -22), (("add_constraint", 1, []), -22), (("add_constraint", 1, [1, 1, 1]), -22),
    (("add_constraint", 1001, [1, 1]), -22), (("add_constraint", -1001, [1, 1]), -22),
    (("add_constraint", 1, [1001, 1]), -22), (("add_constraint", 1, [1, -1001]), -22),
    (("remove_constraint", 6), -2), (("remove_constraint", 4294967295), -2),
    (("set_objective", []), -22), (("set_objective", [7]), -22), (("set_objective", [7, 7, 7]), -22),
    (("set_objective", [-7, 1001]), -22), (("set_objective", [-1001, 7]), -22),
    (("set_cycle", 10001, 1, [1]), -22), (("set_cycle", 1, 0, [1]), -22), (("set_cycle", 1, 41, [1]), -22),
    (("set_cycle", 1, 1, []), -22), (("set_cycle", 1, 1, [0]), -22), (("set_cycle", 1, 1, [1001]), -22),
    (("is_feasible", [1], [1]), -22), (("is_feasible", [1, 1], [1, 0]), -22), (("is_feasible", [], []), -22),
    (("slack", 6, [1, 1], [1, 1]), -2), (("slack", 4294967295, [1], [0]), -2),
    (("check_bound", [1] * 7, [1] * 7), -22), (("check_bound", [1] * 3, [1] * 4), -22),
    (("check_refutation", [1] * 7, [1] * 7), -22), (("check_refutation", [1] * 3, [1] * 2), -22),
    (("check_ray", [1], [1]), -22), (("check_ray", [1, 1], [1, 0]), -22), (("check_ray", [1, 1, 1], [1] * 3), -22),
    (("check_optimum", [1, 1], [1, 1], [1] * 7, [1] * 7), -22), (("check_optimum", [1], [1], [1], [1]), -22),
]


def wrong_for(count, has_cycle):
    """The calls that are wrong in a state with so many constraints, with their errors."""
    good = [1] * count
    found = WRONG + [
        (("remove_constraint", count), -2), (("slack", count, [1, 1], [1, 1]), -2), (("slack", count, [], []), -2),
        (("check_optimum", [1, 1], [1, -1], good, good), -22), (("check_optimum", [1] * 3, [1] * 3, good, good), -22),
        (("exact_curve", 13), -22 if has_cycle else -6), (("exact_curve", 4294967295), -22 if has_cycle else -6),
    ]
    if count > 0:
        found += [
            (("slack", 0, [1], [1]), -22), (("slack", count - 1, [1, 1], [0, 1]), -22),
            (("check_bound", good, good[1:] + [0]), -22), (("check_bound", [0] * count, good), -33),
            (("check_refutation", good, good[1:] + [-1]), -22),
        ]
    if not has_cycle:
        found += [((name,), -6) for name in ("asymptotic", "balanced", "exact", "saturation")]
        found += [(("exact_curve", 0), -6)]
    return found


class ErrorsLeaveAllAsItWas(unittest.TestCase):
    def check(self, made, call, code):
        shown = ask(*made, *SHOWN)
        given = ask(*made, call, *SHOWN)
        self.assertEqual(given[len(made)], [code], call)
        self.assertEqual(given[:len(made)] + given[len(made) + 1:], shown, call)

    def test_each_error(self):
        for made, count, has_cycle in STATES:
            for call, code in wrong_for(count, has_cycle):
                self.check(made, call, code)

    def test_too_many_constraints(self):
        for bound in (-1000, 0, 1000):
            self.check(FULL, ("add_constraint", bound, [1, 1]), -28)

    def test_certificates_that_do_not_exist(self):
        for made, names in (
            (OPTIMAL, ["refutation", "ray"]), (INFEASIBLE, ["optimum", "multipliers", "ray"]),
            (UNBOUNDED, ["optimum", "multipliers", "refutation"]), (BARE, ["refutation", "ray"]),
        ):
            for name in names:
                self.check(made, (name,), -33)

    def test_a_bound_that_is_not_proven(self):
        self.check(OPTIMAL, ("check_bound", [1, 1, 1], [1, 1, 1]), -33)
        self.check(UNBOUNDED, ("check_bound", [9], [1]), -33)
        self.check(program(2, [], [0, 1]), ("check_bound", [], []), -33)

    def test_many_errors_one_after_another(self):
        for made, count, has_cycle in STATES:
            shown = ask(*made, *SHOWN)
            wrong = wrong_for(count, has_cycle)
            for begin in range(0, len(wrong), 12):
                part = wrong[begin:begin + 12]
                given = ask(*made, *[call for call, _ in part], *SHOWN)
                end = len(made) + len(part)
                self.assertEqual(given[len(made):end], [[code] for _, code in part])
                self.assertEqual(given[:len(made)] + given[end:], shown)

    def test_a_bad_call_before_each_step(self):
        made = OPTIMAL + ASKED[3:]
        shown = ask(*made)
        for bad, code in ((("add_constraint", -1000, [1, 1, 1]), -22), (("slack", 6, [1, 1], [1, 1]), -2),
                          (("check_bound", [1] * 7, [1] * 7), -22)):
            calls = [("set_objective", [9, 9])]
            for call in made:
                calls += [call, bad]
            given = ask(*calls[:-1])
            self.assertEqual(given[1::2], shown)
            self.assertEqual(given[0::2], [[-11]] + [[code]] * (len(made) - 1))


class AskingChangesNothing(unittest.TestCase):
    def test_each_call_from_number_5_on(self):
        for made, count, _ in STATES:
            good = [1] * count
            calls = ASKED + [
                ("check_bound", [9] * count, good), ("check_refutation", good, good),
                ("check_optimum", [1, 1], [1, 1], [9] * count, good),
                ("check_optimum", [2, 2], [1, 1], [2, 1, 0][:count], good),
            ]
            shown = ask(*made, *SHOWN)
            for call in calls:
                given = ask(*made, call, call, *SHOWN)
                self.assertEqual(given[len(made)], given[len(made) + 1], call)
                self.assertEqual(given[:len(made)] + given[len(made) + 2:], shown, call)

    def test_asked_again_and_again(self):
        for made, _, _ in STATES:
            given = ask(*made, *ASKED * 2)[len(made):]
            first = given[:len(ASKED)]
            self.assertEqual(given, first * 2)

    def test_asked_between_the_changes(self):
        for made in (OPTIMAL, INFEASIBLE, UNBOUNDED, BARE):
            for between in (OF_PROGRAM[1:5], OF_PROGRAM[9:], OF_CYCLE[:3], OF_CYCLE[3:]):
                calls = []
                for call in made[:5]:
                    calls += [call] + between
                calls += made[5:]
                shown = ask(*made, *TAKEN_APART, *OF_CYCLE)
                given = ask(*calls, *TAKEN_APART, *OF_CYCLE)
                self.assertEqual(given[len(calls):], shown[len(made):])


if __name__ == "__main__":
    unittest.main()
