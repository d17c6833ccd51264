"""Vectors of fractions as points: a tuple of numerators, and behind them their common denominator.

The denominator is positive. A row of coefficients with minus a bound behind them can so be multiplied
with a point in one go: the result is at most 0 just if the point keeps to the bound.
"""


def dot(row, point):
    """The sum of the products, entry by entry."""
    return sum([a * b for a, b in zip(row, point)])


def greatest_divisor(first, second):
    """The greatest common divisor, which is at least 0."""
    a = abs(first)
    b = abs(second)
    while b > 0:
        rest = a % b
        a = b
        b = rest
    return a


def lowest(numerator, denominator):
    """The fraction with this positive denominator in lowest terms: its numerator, and its denominator."""
    divisor = greatest_divisor(numerator, denominator)
    return [numerator // divisor, denominator // divisor]


def lowest_point(numbers):
    """The point with these numerators and this last denominator, in the one form that equal points share."""
    divisor = 0
    for number in numbers:
        divisor = greatest_divisor(divisor, number)
    if numbers[-1] < 0:
        divisor = -divisor
    return tuple([number // divisor for number in numbers])


def point_of(nums, dens):
    """The point whose fractions have these numerators and these positive denominators."""
    common = 1
    for den in dens:
        common = common * den
    scaled = [num * (common // den) for num, den in zip(nums, dens)]
    return tuple(scaled + [common])


def fractions_of(point):
    """The fractions of the point one behind another, each in lowest terms."""
    shown = []
    for num in point[:-1]:
        shown.extend(lowest(num, point[-1]))
    return shown


def value_of(goal, point):
    """The value of the point for the objective, as numerator and denominator in lowest terms."""
    return lowest(dot(goal, point[:-1]), point[-1])


def exceeds(point, other, goal):
    """Whether the point has a greater value than the other one."""
    return dot(goal, point[:-1]) * other[-1] > dot(goal, other[:-1]) * point[-1]


def comes_before(point, other):
    """Whether the point is smaller where the two differ first."""
    for num, other_num in zip(point[:-1], other[:-1]):
        left = num * other[-1]
        right = other_num * point[-1]
        if left != right:
            return left < right
    return False


def first_of(points):
    """Of some points, at least one, the one that comes first."""
    first = points[0]
    for point in points:
        if comes_before(point, first):
            first = point
    return first


def best_of(points, goal):
    """Of some points, at least one, the first one of those with the greatest value."""
    top = points[0]
    for point in points:
        if exceeds(point, top, goal):
            top = point
    return first_of([point for point in points if not exceeds(top, point, goal)])
