"""Helps the tests: to write calls by name, to read what is answered, and to make fixed inputs that look mixed."""

from fractions import Fraction

from cornerbounds.bounds import answers

NUMBERS = {
    "create": 0, "add_constraint": 1, "remove_constraint": 2, "set_objective": 3, "set_cycle": 4,
    "status": 5, "optimum": 6, "multipliers": 7, "refutation": 8, "ray": 9, "corners": 10, "is_feasible": 11,
    "slack": 12, "check_bound": 13, "check_refutation": 14, "check_ray": 15, "check_optimum": 16,
    "asymptotic": 17, "balanced": 18, "exact": 19, "saturation": 20, "exact_curve": 21, "summary": 22,
}


def flat(calls):
    """The calls, each a tuple of a name and its arguments, as the one list of numbers."""
    numbers = []
    for name, *arguments in calls:
        numbers.append(NUMBERS[name])
        for argument in arguments:
            if isinstance(argument, list):
                numbers.append(len(argument))
                numbers.extend(argument)
            else:
                numbers.append(argument)
    return numbers


def split(given, count):
    """The given list as count answers."""
    found = []
    place = 0
    for _ in range(count):
        length = given[place]
        found.append(given[place + 1:place + 1 + length])
        place += 1 + length
    if place != len(given) or [] in found:
        raise AssertionError(f"{given} isn't made of {count} answers")
    return found


def ask(*calls):
    """The answers to the calls, a list for each."""
    numbers = flat(calls)
    if not 1 <= len(calls) <= 50:
        raise ValueError("a request has from 1 to 50 calls")
    handed = list(numbers)
    given = answers(handed)
    if handed != numbers:
        raise AssertionError("the list that was handed in was changed")
    if type(given) is not list or any(type(number) is not int for number in given):
        raise AssertionError(f"{given} isn't a list of whole numbers")
    return split(given, len(calls))


def program(variables, constraints, objective=None):
    """The calls that make a program; a constraint is a pair of its coefficients and its bound."""
    calls = [("create", variables)]
    for coefficients, bound in constraints:
        calls.append(("add_constraint", bound, coefficients))
    if objective is not None:
        calls.append(("set_objective", objective))
    return calls


def ask_of(made, *calls):
    """The answers to the calls behind those that make a program."""
    return ask(*made, *calls)[len(made):]


def fractions(numbers):
    """The fractions that stand in the numbers; each has to be in lowest terms."""
    found = []
    for place in range(0, len(numbers), 2):
        num, den = numbers[place:place + 2]
        fraction = Fraction(num, den)
        if (fraction.numerator, fraction.denominator) != (num, den):
            raise AssertionError(f"{num}, {den} isn't in lowest terms")
        found.append(fraction)
    return found


def written(vector):
    """The fractions as they are answered, one behind another."""
    return [number for fraction in vector for number in (fraction.numerator, fraction.denominator)]


def parted(vector):
    """The fractions as they are handed in: their numerators and their denominators."""
    return [fraction.numerator for fraction in vector], [fraction.denominator for fraction in vector]


def times(row, vector):
    return sum((a * b for a, b in zip(row, vector)), Fraction(0))


def feasible(constraints, vector):
    return all(x >= 0 for x in vector) and all(times(row, vector) <= bound for row, bound in constraints)


class Numbers:
    """A fixed row of numbers that looks mixed, the same on each run."""

    def __init__(self, seed):
        self.state = seed

    def between(self, least, most):
        self.state = (self.state * 6364136223846793005 + 1442695040888963407) % 2 ** 64
        return least + (self.state >> 33) % (most - least + 1)

    def one_of(self, things):
        return things[self.between(0, len(things) - 1)]


def mixed_programs(count, seed, sizes, size, bounds):
    """Programs with coefficients up to size and bounds from the pair."""
    numbers = Numbers(seed)
    made = []
    for turn in range(count):
        width, most = sizes[turn % len(sizes)]
        rows = [([numbers.between(-size, size) for _ in range(width)], numbers.between(*bounds)) for _ in range(most)]
        made.append((width, rows, [numbers.between(-size, size) for _ in range(width)]))
    return made
