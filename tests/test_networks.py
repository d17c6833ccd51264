"""The calls about the cycle: asymptotic, balanced, exact, saturation, exact_curve; and what summary tells."""

import unittest
from fractions import Fraction

from calling import Numbers, ask, fractions, program, written

NAMES = ["asymptotic", "balanced", "exact", "saturation"]
BAD_CYCLES = [
    ("set_cycle", 10001, 3, [2, 3]), ("set_cycle", 4294967295, 3, [2, 3]), ("set_cycle", 10, 0, [2, 3]),
    ("set_cycle", 10, 41, [2, 3]), ("set_cycle", 10, 4294967295, [2, 3]), ("set_cycle", 10, 3, []),
    ("set_cycle", 10, 3, [1] * 9), ("set_cycle", 10, 3, [1] * 10), ("set_cycle", 10, 3, [0]),
    ("set_cycle", 10, 3, [2, 1001]), ("set_cycle", 10, 3, [0, 3]), ("set_cycle", 10, 3, [4294967295, 3]),
]


def asked(think, customers, demands, *calls):
    """The answers to the calls on a new instance with this cycle."""
    given = ask(("create", 1), ("set_cycle", think, customers, demands), *calls)
    if given[:2] != [[0], [0]]:
        raise AssertionError(f"{given[:2]} instead of two times 0")
    return given[2:]


def asymptotic(think, customers, demands):
    total = sum(demands)
    upper = min(Fraction(customers, total + think), Fraction(1, max(demands)))
    return [Fraction(customers, customers * total + think), upper]


def balanced(think, customers, demands):
    total, greatest = sum(demands), max(demands)
    mean = Fraction(total, len(demands))
    lower = customers / (total + think + (customers - 1) * greatest / (1 + Fraction(think, customers * total)))
    upper = customers / (total + think + (customers - 1) * mean / (1 + Fraction(think, total)))
    return [lower, min(upper, Fraction(1, greatest))]


def curve(think, demands, most):
    lengths = [Fraction(0)] * len(demands)
    found = [Fraction(0)]
    for customers in range(1, most + 1):
        stays = [demand * (1 + length) for demand, length in zip(demands, lengths)]
        found.append(customers / (think + sum(stays)))
        lengths = [found[-1] * stay for stay in stays]
    return found


def mixed_cycles(count, seed):
    """Cycles with all sizes of numbers, the ends of the ranges among them."""
    numbers = Numbers(seed)
    found = []
    for _ in range(count):
        think = numbers.one_of([0, 1, 10000, numbers.between(0, 10000), numbers.between(0, 40)])
        customers = numbers.one_of([1, 2, 40, numbers.between(1, 40), numbers.between(1, 8)])
        greatest = numbers.one_of([1, 4, 1000])
        queues = numbers.one_of([1, 2, 8, numbers.between(1, 8)])
        found.append((think, customers, [numbers.between(1, greatest) for _ in range(queues)]))
    return found


CYCLES = mixed_cycles(300, 11) + [
    (think, customers, demands) for think in (0, 10000) for customers in (1, 40)
    for demands in ([1], [1000], [1] * 8, [1000] * 8, [1, 1000], [1000, 999, 998, 997, 991, 983, 977, 971])
]


class CycleCase(unittest.TestCase):
    CALL = None

    def expect(self, think, customers, demands, *answer):
        self.assertEqual(asked(think, customers, demands, (self.CALL,)), [list(answer)], (think, customers, demands))


class Asymptotic(CycleCase):
    CALL = "asymptotic"

    def test_the_first_one_of_the_upper_is_smaller(self):
        self.expect(10, 3, [2, 3], 0, 3, 25, 1, 5)
        self.expect(10, 4, [2, 3], 0, 2, 15, 4, 15)
        self.expect(10000, 1, [1], 0, 1, 10001, 1, 10001)
        self.expect(0, 2, [3, 3, 3], 0, 1, 9, 2, 9)

    def test_the_second_one_of_the_upper_is_smaller(self):
        self.expect(10, 6, [2, 3], 0, 3, 20, 1, 3)
        self.expect(10000, 40, [1000], 0, 1, 1250, 1, 1000)
        self.expect(0, 40, [1000] * 8, 0, 1, 8000, 1, 1000)

    def test_both_of_the_upper_are_equal(self):
        self.expect(10, 5, [2, 3], 0, 1, 7, 1, 3)
        self.expect(1, 2, [1], 0, 2, 3, 1, 1)
        self.expect(0, 1, [7], 0, 1, 7, 1, 7)
        self.expect(0, 8, [1000] * 8, 0, 1, 8000, 1, 1000)

    def test_small_differences(self):
        self.expect(9001, 10, [1000], 0, 10, 19001, 10, 10001)
        self.expect(8999, 10, [1000], 0, 10, 18999, 1, 1000)

    def test_the_ends_of_the_ranges(self):
        self.expect(0, 1, [1], 0, 1, 1, 1, 1)
        self.expect(0, 40, [1], 0, 1, 1, 1, 1)
        self.expect(10000, 40, [1], 0, 1, 251, 40, 10001)
        self.expect(10000, 1, [1000] * 8, 0, 1, 18000, 1, 18000)
        self.expect(10000, 40, [1000] * 8, 0, 1, 8250, 1, 1000)
        self.expect(0, 1, [1] * 8, 0, 1, 8, 1, 8)

    def test_one_customer_meets_no_other(self):
        for think in (0, 7, 10000):
            self.expect(think, 1, [4, 5], 0, 1, 9 + think, 1, 9 + think)


class Balanced(CycleCase):
    CALL = "balanced"

    def test_the_first_one_of_the_upper_is_smaller(self):
        self.expect(1, 2, [1], 0, 3, 4, 4, 5)
        self.expect(10, 3, [2, 3], 0, 5, 31, 9, 50)
        self.expect(0, 2, [2, 3], 0, 1, 4, 4, 15)

    def test_the_second_one_of_the_upper_is_smaller(self):
        self.expect(10, 40, [2, 3], 0, 56, 177, 1, 3)
        self.expect(0, 40, [1, 1000], 0, 40, 40001, 1, 1000)

    def test_both_of_the_upper_are_equal(self):
        self.expect(0, 2, [1, 3], 0, 2, 7, 1, 3)
        self.expect(0, 40, [1000], 0, 1, 1000, 1, 1000)

    def test_equal_demands_without_think_time_leave_no_room(self):
        self.expect(0, 4, [5, 5], 0, 4, 25, 4, 25)
        self.expect(0, 40, [1] * 8, 0, 40, 47, 40, 47)
        self.expect(0, 40, [1000] * 8, 0, 1, 1175, 1, 1175)
        self.expect(0, 1, [1], 0, 1, 1, 1, 1)

    def test_equal_demands_with_think_time(self):
        self.expect(10, 3, [5, 5], 0, 6, 55, 3, 25)

    def test_one_customer_meets_no_other(self):
        for think in (0, 7, 10000):
            self.expect(think, 1, [4, 5], 0, 1, 9 + think, 1, 9 + think)

    def test_the_ends_of_the_ranges(self):
        self.expect(10000, 1, [1000] * 8, 0, 1, 18000, 1, 18000)
        self.expect(10000, 40, [1], 0, 1004, 251029, 10001, 2500501)


class Exact(CycleCase):
    CALL = "exact"

    def test_ordinary_cycles(self):
        self.expect(1, 2, [1], 0, 4, 5)
        self.expect(10, 1, [2, 3], 0, 1, 15)
        self.expect(10, 2, [2, 3], 0, 15, 119)
        self.expect(10, 3, [2, 3], 0, 357, 2015)

    def test_one_queue_without_think_time(self):
        for customers in (1, 2, 40):
            for demand in (1, 7, 1000):
                self.expect(0, customers, [demand], 0, 1, demand)

    def test_equal_demands_without_think_time(self):
        self.expect(0, 4, [5, 5], 0, 4, 25)
        self.expect(0, 40, [1] * 8, 0, 40, 47)
        self.expect(0, 40, [1000] * 8, 0, 1, 1175)

    def test_one_customer(self):
        self.expect(10000, 1, [1], 0, 1, 10001)
        self.expect(10000, 1, [1000] * 8, 0, 1, 18000)
        self.expect(0, 1, [1, 2, 3, 4, 5, 6, 7, 8], 0, 1, 36)

    def test_the_order_of_the_queues_does_not_matter(self):
        first = asked(5, 9, [1, 2, 3, 4], ("exact",))
        self.assertEqual(asked(5, 9, [4, 3, 2, 1], ("exact",)), first)
        self.assertEqual(asked(5, 9, [2, 4, 1, 3], ("exact",)), first)

    def test_more_than_64_bits(self):
        given = asked(10000, 40, [1000, 999, 998, 997, 991, 983, 977, 971], ("exact",))[0]
        self.assertEqual(given, [0] + written(curve(10000, [1000, 999, 998, 997, 991, 983, 977, 971], 40)[-1:]))
        self.assertGreater(given[2], 2 ** 300)


class Saturation(CycleCase):
    CALL = "saturation"

    def test_ordinary_cycles(self):
        self.expect(1, 2, [1], 0, 2, 1)
        self.expect(10, 3, [2, 3], 0, 5, 1)
        self.expect(0, 3, [2, 3, 3], 0, 8, 3)
        self.expect(1, 3, [4, 6, 3], 0, 7, 3)

    def test_the_ends_of_the_ranges(self):
        self.expect(0, 1, [1], 0, 1, 1)
        self.expect(0, 40, [1000] * 8, 0, 8, 1)
        self.expect(10000, 40, [1000] * 8, 0, 18, 1)
        self.expect(10000, 1, [1], 0, 10001, 1)
        self.expect(9999, 1, [1] * 7 + [1000], 0, 5503, 500)

    def test_does_not_depend_on_the_customers(self):
        for customers in (1, 7, 40):
            self.expect(10, customers, [2, 3, 4], 0, 19, 4)


class ExactCurve(unittest.TestCase):
    def expect(self, think, customers, demands, most, *answer):
        self.assertEqual(asked(think, customers, demands, ("exact_curve", most)), [list(answer)])

    def test_ordinary_curves(self):
        self.expect(1, 2, [1], 2, 3, 0, 1, 1, 2, 4, 5)
        self.expect(10, 3, [2, 3], 3, 4, 0, 1, 1, 15, 15, 119, 357, 2015)
        self.expect(0, 5, [5, 5], 4, 5, 0, 1, 1, 10, 2, 15, 3, 20, 4, 25)

    def test_none_at_all(self):
        for customers in (1, 40):
            self.expect(10, customers, [2, 3], 0, 1, 0, 1)

    def test_does_not_depend_on_the_customers(self):
        demands = [2, 3, 7]
        for customers in (1, 2, 11, 12, 13, 40):
            for most in (0, 1, 2, 11, 12):
                answer = [most + 1] + written(curve(10, demands, most))
                self.expect(10, customers, demands, most, *answer)

    def test_the_greatest(self):
        for think in (0, 10000):
            for demands in ([1], [1000], [1] * 8, [1000] * 8, [1000, 1, 999, 2, 998, 3, 997, 4]):
                self.expect(think, 1, demands, 12, 13, *written(curve(think, demands, 12)))

    def test_its_last_one_is_the_exact_throughput(self):
        for customers in range(1, 13):
            exact, found = asked(6, customers, [3, 5, 1], ("exact",), ("exact_curve", customers))
            self.assertEqual(found[-2:], exact[1:])

    def test_too_many(self):
        for most in (13, 14, 40, 2147483648, 4294967295):
            self.expect(10, 40, [2, 3], most, -22)

    def test_no_cycle_comes_first(self):
        for most in (0, 12, 13, 4294967295):
            self.assertEqual(ask(("create", 1), ("exact_curve", most)), [[0], [-6]])


class ByDefinition(unittest.TestCase):
    def test_all_of_them(self):
        for cycle in CYCLES:
            think, customers, demands = cycle
            given = asked(*cycle, *[(name,) for name in NAMES], ("exact_curve", 12))
            throughputs = curve(think, demands, max(12, customers))
            self.assertEqual(given[0], [0] + written(asymptotic(*cycle)), cycle)
            self.assertEqual(given[1], [0] + written(balanced(*cycle)), cycle)
            self.assertEqual(given[2], [0] + written([throughputs[customers]]), cycle)
            self.assertEqual(given[3], [0] + written([Fraction(sum(demands) + think, max(demands))]), cycle)
            self.assertEqual(given[4], [13] + written(throughputs[:13]), cycle)

    def test_each_side_of_the_smaller_one_is_met(self):
        seen = set()
        for think, customers, demands in CYCLES:
            for bounds in (asymptotic, balanced):
                upper = bounds(think, customers, demands)[1]
                seen.add((bounds.__name__, upper == Fraction(1, max(demands))))
        self.assertEqual(len(seen), 4)

    def test_one_bound_lies_within_the_other(self):
        strict = 0
        for cycle in CYCLES:
            given = asked(*cycle, ("asymptotic",), ("balanced",), ("exact",))
            wide, narrow, exact = [fractions(answer[1:]) for answer in given]
            ordered = [wide[0], narrow[0], exact[0], narrow[1], wide[1]]
            self.assertEqual(ordered, sorted(ordered), cycle)
            strict += len(set(ordered)) == 5
        self.assertGreater(strict, 50)


class KeptCycle(unittest.TestCase):
    FIRST = [[0, 3, 25, 1, 5], [0, 5, 31, 9, 50], [0, 357, 2015], [0, 5, 1], [3, 0, 1, 1, 15, 15, 119], [1, 0, 2]]
    SECOND = [[0, 2, 3, 1, 1], [0, 3, 4, 4, 5], [0, 4, 5], [0, 2, 1], [3, 0, 1, 1, 2, 4, 5], [1, 0, 1]]
    NONE = [[-6]] * 5 + [[1, 0, 0]]
    SHOWN = [(name,) for name in NAMES] + [("exact_curve", 2), ("summary",)]

    def shown_behind(self, *calls):
        return ask(*calls, *self.SHOWN)[len(calls):]

    def test_there_is_none_at_first(self):
        self.assertEqual(self.shown_behind(("create", 1)), self.NONE)

    def test_set_cycle_replaces_it(self):
        made = [("create", 1), ("set_cycle", 10, 3, [2, 3])]
        self.assertEqual(self.shown_behind(*made), self.FIRST)
        self.assertEqual(self.shown_behind(*made, ("set_cycle", 1, 2, [1])), self.SECOND)
        self.assertEqual(self.shown_behind(*made, ("set_cycle", 1, 2, [1]), made[1]), self.FIRST)

    def test_create_takes_it_away(self):
        for variables in (1, 2, 5):
            made = [("create", variables), ("set_cycle", 10, 3, [2, 3]), ("create", 1)]
            self.assertEqual(self.shown_behind(*made), self.NONE)

    def test_a_set_cycle_that_fails_leaves_it(self):
        for call in BAD_CYCLES:
            made = [("create", 1), ("set_cycle", 10, 3, [2, 3]), call]
            self.assertEqual(ask(*made), [[0], [0], [-22]], call)
            self.assertEqual(self.shown_behind(*made), self.FIRST, call)

    def test_a_first_set_cycle_that_fails_makes_none(self):
        for call in BAD_CYCLES:
            self.assertEqual(self.shown_behind(("create", 1), call), self.NONE, call)

    def test_a_create_that_fails_leaves_it(self):
        for variables in (0, 6, 4294967295):
            made = [("create", 1), ("set_cycle", 10, 3, [2, 3]), ("create", variables)]
            self.assertEqual(self.shown_behind(*made), self.FIRST)

    def test_changes_of_the_program_leave_it(self):
        made = [("create", 1), ("set_cycle", 10, 3, [2, 3]), ("add_constraint", 5, [7]), ("set_objective", [4]),
                ("remove_constraint", 0), ("add_constraint", 5, [7, 7]), ("remove_constraint", 9)]
        self.assertEqual(self.shown_behind(*made), self.FIRST)

    def test_does_not_depend_on_the_program(self):
        for made in (program(5, [], [1] * 5), program(2, [([1, 1], 4), ([-1, -1], -5)], [1, 1])):
            self.assertEqual(self.shown_behind(*made, ("set_cycle", 1, 2, [1]))[:5], self.SECOND[:5])


class Summary(unittest.TestCase):
    def test_each_number_of_variables(self):
        for variables in range(1, 6):
            self.assertEqual(ask(("create", variables), ("summary",)), [[0], [variables, 0, 0]])

    def test_each_number_of_constraints(self):
        calls = [("create", 2), ("summary",)]
        for bound in range(7):
            calls += [("add_constraint", bound, [1, 1]), ("summary",)]
        self.assertEqual(ask(*calls)[1::2], [[2, count, 0] for count in (0, 1, 2, 3, 4, 5, 6, 6)])

    def test_removals(self):
        calls = program(3, [([1, 1, 1], bound) for bound in range(6)])
        for _ in range(7):
            calls += [("remove_constraint", 0), ("summary",)]
        self.assertEqual(ask(*calls)[8::2], [[3, count, 0] for count in (5, 4, 3, 2, 1, 0, 0)])

    def test_each_number_of_queues(self):
        for queues in range(1, 9):
            self.assertEqual(asked(10, 40, [1000] * queues, ("summary",)), [[1, 0, queues]])
        self.assertEqual(asked(10, 40, [7] * 8, ("set_cycle", 0, 1, [7, 7]), ("summary",)), [[0], [1, 0, 2]])

    def test_behind_a_new_create(self):
        made = program(3, [([1, 1, 1], 4)] * 2, [1, 2, 3]) + [("set_cycle", 1, 2, [5, 5])]
        self.assertEqual(ask(*made, ("summary",), ("create", 4), ("summary",))[-3:], [[3, 2, 2], [0], [4, 0, 0]])

    def test_behind_calls_that_failed(self):
        made = program(3, [([1, 1, 1], 4)] * 2) + [("set_cycle", 1, 2, [5, 5])]
        wrong = [("create", 6), ("add_constraint", 1001, [1, 1, 1]), ("remove_constraint", 2),
                 ("set_objective", [1]), ("set_cycle", 1, 2, [0, 1, 1])]
        for call in wrong:
            self.assertEqual(ask(*made, call, ("summary",))[-1], [3, 2, 2], call)
        self.assertEqual(ask(*made, *wrong, ("summary",))[-1], [3, 2, 2])


if __name__ == "__main__":
    unittest.main()
