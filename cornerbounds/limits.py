"""The ranges that arguments must lie in."""

MOST_VARIABLES = 5
MOST_CONSTRAINTS = 6
GREATEST_COEFFICIENT = 1000
GREATEST_THINK = 10000
MOST_CUSTOMERS = 40
MOST_QUEUES = 8
GREATEST_DEMAND = 1000
GREATEST_MOST = 12


def is_variables(number):
    """Whether a program may have so many variables."""
    return 1 <= number <= MOST_VARIABLES


def is_coefficient(number):
    """Whether the number may be a coefficient or a bound."""
    return abs(number) <= GREATEST_COEFFICIENT


def are_coefficients(numbers, width):
    """Whether the numbers may be the coefficients of width variables."""
    return len(numbers) == width and all([is_coefficient(number) for number in numbers])


def is_vector(nums, dens, width):
    """Whether numerators and denominators make a vector of width fractions."""
    if len(nums) != width or len(dens) != width:
        return False
    return all([den >= 1 for den in dens])


def are_demands(numbers):
    """Whether the numbers may be the demands of a cycle."""
    if not 1 <= len(numbers) <= MOST_QUEUES:
        return False
    return all([1 <= number <= GREATEST_DEMAND for number in numbers])


def is_cycle(think, customers, demands):
    """Whether a cycle may be made of these."""
    if not 0 <= think <= GREATEST_THINK:
        return False
    return 1 <= customers <= MOST_CUSTOMERS and are_demands(demands)


def is_most(number):
    """Whether a curve may go up to so many customers."""
    return 0 <= number <= GREATEST_MOST
