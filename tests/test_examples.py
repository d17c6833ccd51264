"""The rows of the document's examples."""

import unittest

from calling import ask

ROWS = [
    (("asymptotic",), [-11]),
    (("create", 2), [0]),
    (("asymptotic",), [-6]),
    (("add_constraint", 4, [1, 1]), [0]),
    (("add_constraint", 2, [1, 0]), [1]),
    (("set_objective", [3, 2]), [0]),
    (("status",), [0]),
    (("optimum",), [0, 10, 1, 2, 1, 2, 1]),
    (("multipliers",), [2, 2, 1, 1, 1]),
    (("check_bound", [2, 1], [1, 1]), [0, 10, 1]),
    (("check_bound", [1, 1], [1, 1]), [-33]),
    (("check_optimum", [2, 2], [1, 1], [2, 1], [1, 1]), [1]),
    (("corners",), [4]),
    (("is_feasible", [1, 7], [2, 2]), [1]),
    (("slack", 0, [1, 1], [2, 3]), [0, 19, 6]),
    (("refutation",), [-33]),
    (("ray",), [-33]),
    (("add_constraint", -5, [-1, -1]), [2]),
    (("status",), [1]),
    (("refutation",), [3, 1, 2, 0, 1, 1, 2]),
    (("check_refutation", [1, 0, 1], [1, 1, 1]), [1]),
    (("optimum",), [-33]),
    (("remove_constraint", 2), [2]),
    (("remove_constraint", 0), [1]),
    (("status",), [2]),
    (("ray",), [2, 0, 1, 1, 1]),
    (("check_ray", [0, 3], [1, 1]), [1]),
    (("check_ray", [1, 0], [1, 1]), [0]),
    (("set_cycle", 1, 2, [1]), [0]),
    (("exact",), [0, 4, 5]),
    (("balanced",), [0, 3, 4, 4, 5]),
    (("asymptotic",), [0, 2, 3, 1, 1]),
    (("saturation",), [0, 2, 1]),
    (("exact_curve", 2), [3, 0, 1, 1, 2, 4, 5]),
    (("add_constraint", 0, [1]), [-22]),
    (("remove_constraint", 5), [-2]),
    (("summary",), [2, 1, 1]),
]


class Examples(unittest.TestCase):
    def test_all_rows_one_after_another(self):
        given = ask(*[call for call, _ in ROWS])
        for (call, expected), answer in zip(ROWS, given):
            self.assertEqual(answer, expected, call)

    def test_each_beginning_of_the_rows(self):
        for count in range(1, len(ROWS) + 1):
            given = ask(*[call for call, _ in ROWS[:count]])
            self.assertEqual(given, [expected for _, expected in ROWS[:count]])


if __name__ == "__main__":
    unittest.main()
