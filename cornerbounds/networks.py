"""Closed networks: bounds of the throughput, and the exact throughput between them."""

from cornerbounds.points import lowest


class Cycle:
    """A closed network."""

    def __init__(self, think, customers, demands):
        self.think = think
        self.customers = customers
        self.demands = demands


def smaller(first, second):
    """The smaller one of two fractions, each a pair of numerator and positive denominator."""
    if first[0] * second[1] <= second[0] * first[1]:
        return first
    return second


def asymptotic_bounds(cycle):
    """The two asymptotic bounds, one behind the other."""
    customers = cycle.customers
    total = sum(cycle.demands)
    lower = lowest(customers, customers * total + cycle.think)
    upper = lowest(customers, total + cycle.think)
    return lower + smaller(upper, [1, max(cycle.demands)])


def balanced_bounds(cycle):
    """The two balanced bounds, one behind the other."""
    customers = cycle.customers
    queues = len(cycle.demands)
    total = sum(cycle.demands)
    greatest = max(cycle.demands)
    # Each bound is expanded by the denominators of the fractions within it.
    alone = total + cycle.think
    crowded = customers * total + cycle.think
    lower = lowest(customers * crowded, alone * crowded + (customers - 1) * greatest * customers * total)
    upper = lowest(customers * queues * alone, queues * alone * alone + (customers - 1) * total * total)
    return lower + smaller(upper, [1, greatest])


def exact_throughputs(cycle, most):
    """The exact throughputs with 0, 1, 2 and so on up to most customers, a list of fractions."""
    found = [lowest(0, 1)]
    # All lengths and stays are kept times the one number whole, so that they are whole numbers too.
    whole = 1
    lengths = [0] * len(cycle.demands)
    for customers in range(1, most + 1):
        stays = [demand * (whole + length) for demand, length in zip(cycle.demands, lengths)]
        round_trip = cycle.think * whole + sum(stays)
        found.append(lowest(customers * whole, round_trip))
        lengths = [customers * stay for stay in stays]
        whole = round_trip
    return found


def saturation_of(cycle):
    """The saturation."""
    return lowest(sum(cycle.demands) + cycle.think, max(cycle.demands))
