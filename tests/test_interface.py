"""How calls are handed in and answers are given back, and what holds before there is an instance."""

import unittest

from calling import ask, ask_of, flat, program
from cornerbounds.bounds import answers

HIGHEST = 4294967295
LOWEST_SIGNED = -2147483648
HIGHEST_SIGNED = 2147483647

# Each call but create, with good arguments where an instance would be there, and with bad ones.
OTHERS = [
    ("add_constraint", 4, [1, 1]), ("add_constraint", 4000, []), ("remove_constraint", 0),
    ("remove_constraint", HIGHEST), ("set_objective", [1, 2]), ("set_objective", []),
    ("set_cycle", 1, 2, [1]), ("set_cycle", HIGHEST, HIGHEST, []), ("status",), ("optimum",), ("multipliers",),
    ("refutation",), ("ray",), ("corners",), ("is_feasible", [1, 1], [1, 1]), ("is_feasible", [], []),
    ("is_feasible", [1], [0, 0, 0]), ("slack", 0, [1, 1], [1, 1]), ("slack", HIGHEST, [], [1]),
    ("check_bound", [], []), ("check_bound", [], [0]), ("check_refutation", [], []), ("check_refutation", [1], [1]),
    ("check_ray", [1, 1], [1, 1]), ("check_ray", [1], []), ("check_optimum", [1, 1], [1, 1], [], []),
    ("check_optimum", [], [], [], [0]), ("asymptotic",), ("balanced",), ("exact",), ("saturation",),
    ("exact_curve", 2), ("exact_curve", HIGHEST), ("summary",),
]


class Answers(unittest.TestCase):
    def test_each_answer_has_its_length_before_it(self):
        calls = [0, 2, 1, 4, 2, 1, 1, 1, 2, 2, 1, 0, 3, 2, 3, 2, 6, 5, 8]
        given = answers(calls)
        self.assertEqual(given, [1, 0, 1, 0, 1, 1, 1, 0, 7, 0, 10, 1, 2, 1, 2, 1, 1, 0, 1, -33])

    def test_one_call_alone(self):
        self.assertEqual(answers([0, 1]), [1, 0])
        self.assertEqual(answers([0, 0]), [1, -22])
        self.assertEqual(answers([5]), [1, -11])

    def test_rows_with_nothing_in_them(self):
        self.assertEqual(answers([0, 1, 1, 0, 0, 3, 0, 11, 0, 0, 10]), [1, 0, 1, -22, 1, -22, 1, -22, 1, 1])
        self.assertEqual(answers([0, 1, 4, 0, 1, 0, 12, 0, 0, 0, 13, 0, 0, 14, 0, 0, 15, 0, 0, 22]),
                         [1, 0, 1, -22, 1, -2, 3, 0, 0, 1, 1, 0, 1, -22, 3, 1, 0, 0])
        self.assertEqual(answers([0, 1, 16, 1, 0, 1, 1, 0, 0, 16, 0, 0, 0, 0, 10]), [1, 0, 1, 1, 1, -22, 1, 1])

    def test_each_call_behind_an_instance_is_taken_apart(self):
        # Behind each call stands one whose answer shows that it was read from the right place.
        for call in OTHERS:
            made = [("create", 2), ("add_constraint", 5, [1, 2]), ("set_cycle", 1, 2, [1])]
            self.assertEqual(ask(*made, call, ("create", 5), ("summary",))[-2:], [[0], [5, 0, 0]], call)

    def test_fifty_calls(self):
        given = ask(("create", 1), *[("corners",)] * 49)
        self.assertEqual(given, [[0]] + [[1]] * 49)

    def test_the_longest_list(self):
        row = [LOWEST_SIGNED] * 10
        calls = flat([("check_optimum", row, row, row, row)] * 50)
        self.assertEqual(len(calls), 2250)
        self.assertEqual(answers(calls), [1, -11] * 50)

    def test_the_list_handed_in_stays_as_it_was(self):
        calls = flat(program(2, [([1, 1], 4), ([1, 0], 2)], [3, 2]) + [
            ("set_cycle", 1, 2, [3, 4]), ("optimum",), ("multipliers",), ("refutation",), ("ray",),
            ("corners",), ("is_feasible", [2, 4], [4, 6]), ("slack", 0, [2, 4], [4, 6]),
            ("check_bound", [4, 2], [2, 2]), ("check_refutation", [4, 2], [2, 2]), ("check_ray", [2, 4], [4, 6]),
            ("check_optimum", [4, 4], [2, 2], [4, 2], [2, 2]), ("asymptotic",), ("balanced",), ("exact",),
            ("saturation",), ("exact_curve", 12), ("summary",), ("remove_constraint", 0), ("ray",), ("create", 9),
        ])
        before = list(calls)
        answers(calls)
        self.assertEqual(calls, before)

    def test_nothing_is_kept_from_one_time_to_the_next(self):
        calls = flat(program(1, [([1], 3)], [1]) + [("optimum",)])
        first = answers(calls)
        self.assertEqual(answers([5]), [1, -11])
        self.assertEqual(answers([6]), [1, -11])
        self.assertEqual(answers([0, 1, 6]), [1, 0, 5, 0, 0, 1, 0, 1])
        self.assertEqual(answers(calls), first)

    def test_no_cycle_is_kept_from_one_time_to_the_next(self):
        calls = flat([("create", 1), ("set_cycle", 10, 3, [2, 3]), ("exact",), ("exact_curve", 2), ("summary",)])
        first = answers(calls)
        for number in range(17, 21):
            self.assertEqual(answers([number]), [1, -11])
            self.assertEqual(answers([0, 1, number]), [1, 0, 1, -6])
        self.assertEqual(answers([0, 2, 21, 2, 22]), [1, 0, 1, -6, 3, 2, 0, 0])
        self.assertEqual(answers(calls), first)

    def test_what_is_given_back_belongs_to_the_caller(self):
        calls = flat(program(1, [([1], 3)], [1]) + [("optimum",), ("multipliers",)])
        first = answers(calls)
        kept = list(first)
        first.clear()
        self.assertEqual(answers(calls), kept)


class WithoutAnInstance(unittest.TestCase):
    def test_each_other_call(self):
        for call in OTHERS:
            self.assertEqual(ask(call), [[-11]], call)

    def test_each_other_call_with_calls_behind_it(self):
        for call in OTHERS:
            given = ask(call, call, ("create", 0), ("create", 4), ("status",))
            self.assertEqual(given, [[-11], [-11], [-22], [0], [0]], call)

    def test_all_of_them_one_after_another(self):
        self.assertEqual(ask(*OTHERS), [[-11]] * len(OTHERS))

    def test_each_other_call_behind_a_create_that_failed(self):
        for call in OTHERS:
            self.assertEqual(ask(("create", 6), call), [[-22], [-11]], call)

    def test_create_behind_the_others(self):
        given = ask(*OTHERS[:20], ("create", 3), ("corners",))
        self.assertEqual(given, [[-11]] * 20 + [[0], [1]])

    def test_calls_that_were_refused_left_nothing_behind(self):
        given = ask(
            ("add_constraint", 1, [1]), ("set_objective", [1]), ("create", 1), ("remove_constraint", 0),
            ("status",), ("multipliers",),
        )
        self.assertEqual(given, [[-11], [-11], [0], [-2], [0], [0]])


class FarOutside(unittest.TestCase):
    """Arguments at the bounds of what may be handed in at all."""

    def test_whole_numbers(self):
        made = program(2, [([1, 1], 4)])
        for call, expected in [
            (("create", HIGHEST), -22),
            (("add_constraint", HIGHEST_SIGNED, [1, 1]), -22),
            (("add_constraint", LOWEST_SIGNED, [1, 1]), -22),
            (("remove_constraint", HIGHEST), -2),
            (("remove_constraint", 2147483648), -2),
            (("set_cycle", HIGHEST, 2, [1]), -22),
            (("set_cycle", 1, HIGHEST, [1]), -22),
            (("slack", HIGHEST, [1, 1], [1, 1]), -2),
            (("slack", 2147483648, [1, 1], [1, 1]), -2),
            (("exact_curve", HIGHEST), -6),
        ]:
            self.assertEqual(ask_of(made, call), [[expected]], call)

    def test_numbers_in_rows(self):
        made = program(2, [([1, 1], 4)])
        for far in (LOWEST_SIGNED, HIGHEST_SIGNED):
            for row in ([far, 1], [1, far], [far, far], [far] * 10):
                for call in [("add_constraint", 1, row), ("set_objective", row)]:
                    self.assertEqual(ask_of(made, call), [[-22]], call)
        for row in ([HIGHEST], [1, HIGHEST], [HIGHEST] * 8, [HIGHEST] * 10):
            self.assertEqual(ask_of(made, ("set_cycle", 1, 2, row)), [[-22]], row)

    def test_lists_of_ten(self):
        made = program(2, [([1, 1], 4)] * 6)
        for far in (LOWEST_SIGNED, HIGHEST_SIGNED):
            row = [far] * 10
            for call in [("is_feasible", row, row), ("slack", 5, row, row), ("check_bound", row, row),
                         ("check_refutation", row, row), ("check_ray", row, row),
                         ("check_optimum", row, row, row, row)]:
                self.assertEqual(ask_of(made, call), [[-22]], call)

    def test_a_curve(self):
        made = [("create", 1), ("set_cycle", 1, 2, [1])]
        for most in (13, 2147483647, 2147483648, HIGHEST):
            self.assertEqual(ask_of(made, ("exact_curve", most)), [[-22]], most)


if __name__ == "__main__":
    unittest.main()
