"""Linear programs: their corners, their rays, their status and the programs that are made from them."""

from cornerbounds.points import dot, value_of
from cornerbounds.systems import System

OPTIMAL = 0
INFEASIBLE = 1
UNBOUNDED = 2


class Program:
    """A program of width variables.

    A constraint is a row of its coefficients with minus its bound behind them; goal is the objective.
    """

    def __init__(self, width, rows, goal):
        self.width = width
        self.rows = rows
        self.goal = goal


def keeps_to(program, point):
    """Whether the point is feasible in the program."""
    if min(point) < 0:
        return False
    return all([dot(row, point) <= 0 for row in program.rows])


def sign_rows(width):
    """For each variable the row that says that it is 0."""
    rows = []
    for place in range(width):
        row = [0] * (width + 1)
        row[place] = 1
        rows.append(row)
    return rows


def search_corners(program, system, conditions, found):
    """Puts the corners into found that solve the system and some of the conditions, as many as it lacks."""
    lacking = program.width - len(system.rows)
    if lacking == 0:
        point = system.solution()
        if point not in found and keeps_to(program, point):
            found[point] = True
        return
    for place in range(len(conditions) - lacking + 1):
        wider = system.with_equation(conditions[place])
        # A dependent equation leaves no only solution, whatever else is chosen.
        if wider is not None:
            search_corners(program, wider, conditions[place + 1:], found)


def corners_from(program, system):
    """The different corners of the program that solve the system."""
    found = {}
    search_corners(program, system, sign_rows(program.width) + program.rows, found)
    return list(found)


def corners_of(program):
    """The different corners of the program."""
    return corners_from(program, System(1, [], []))


def cone_of(program):
    """The program with each bound replaced by 0: its feasible vectors are directions."""
    rows = [row[:-1] + [0] for row in program.rows]
    return Program(program.width, rows, program.goal)


def rays_of(program):
    """The different rays of the program."""
    # "At most 1 and at least 1" makes this equation hold for each feasible vector, so each corner has a
    # choice of conditions with it: the other choices needn't be tried.
    one = System(1, [], []).with_equation([1] * program.width + [-1])
    if one is None:
        return []
    return corners_from(cone_of(program), one)


def gains(program, point):
    """Whether the point has a positive value."""
    return dot(program.goal, point[:-1]) > 0


def improving_rays_of(program):
    """The different rays of the program that have a positive value."""
    return [ray for ray in rays_of(program) if gains(program, ray)]


def is_improving(program, point):
    """Whether the point is an improving direction of the program."""
    return keeps_to(cone_of(program), point) and gains(program, point)


def dual_of(program):
    """The dual program."""
    rows = []
    for place in range(program.width):
        row = [-constraint[place] for constraint in program.rows]
        rows.append(row + [program.goal[place]])
    return Program(len(program.rows), rows, [constraint[-1] for constraint in program.rows])


def proven_bound_of(program, point):
    """The proven bound of a point that is feasible in the dual program, in lowest terms."""
    return value_of([-row[-1] for row in program.rows], point)


def status_of(program):
    """The status of the program."""
    if len(corners_of(program)) == 0:
        return INFEASIBLE
    if len(improving_rays_of(program)) > 0:
        return UNBOUNDED
    return OPTIMAL
