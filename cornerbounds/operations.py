"""The operations: each takes the instance, the whole numbers and the rows of a call, and gives its answer."""

from cornerbounds.instances import Cycle
from cornerbounds.limits import MOST_CONSTRAINTS, are_coefficients, is_coefficient, is_cycle, is_variables, is_vector
from cornerbounds.points import best_of, first_of, fractions_of, point_of, value_of
from cornerbounds.programs import OPTIMAL, UNBOUNDED, Program, corners_of, dual_of, improving_rays_of
from cornerbounds.programs import keeps_to, status_of
from cornerbounds.refusals import BAD_ARGUMENT, CONSTRAINTS_FULL, NOT_THERE, NO_CONSTRAINT, NO_INSTANCE, refusal

CREATE = 0


def create(instance, numbers, rows):
    """Begins a program without constraints, in the place of what was there."""
    width = numbers[0]
    if not is_variables(width):
        return refusal(BAD_ARGUMENT)
    instance.program = Program(width, [], [0] * width)
    instance.cycle = None
    return [0]


def add_constraint(instance, numbers, rows):
    """Adds a constraint and answers its number."""
    program = instance.program
    bound = numbers[0]
    coefficients = rows[0]
    if not is_coefficient(bound) or not are_coefficients(coefficients, program.width):
        return refusal(BAD_ARGUMENT)
    count = len(program.rows)
    if count == MOST_CONSTRAINTS:
        return refusal(CONSTRAINTS_FULL)
    instance.program = Program(program.width, program.rows + [coefficients + [-bound]], program.goal)
    return [count]


def remove_constraint(instance, numbers, rows):
    """Removes a constraint and answers how many remain."""
    program = instance.program
    place = numbers[0]
    if place >= len(program.rows):
        return refusal(NO_CONSTRAINT)
    remaining = program.rows[:place] + program.rows[place + 1:]
    instance.program = Program(program.width, remaining, program.goal)
    return [len(remaining)]


def set_objective(instance, numbers, rows):
    """Changes the objective."""
    program = instance.program
    coefficients = rows[0]
    if not are_coefficients(coefficients, program.width):
        return refusal(BAD_ARGUMENT)
    instance.program = Program(program.width, program.rows, coefficients)
    return [0]


def set_cycle(instance, numbers, rows):
    """Replaces the cycle."""
    think = numbers[0]
    customers = numbers[1]
    demands = rows[0]
    if not is_cycle(think, customers, demands):
        return refusal(BAD_ARGUMENT)
    instance.cycle = Cycle(think, customers, demands)
    return [0]


def status(instance, numbers, rows):
    """Answers the status of the program."""
    return [status_of(instance.program)]


def optimum(instance, numbers, rows):
    """Answers the value of the optimum, and the optimum."""
    program = instance.program
    if status_of(program) != OPTIMAL:
        return refusal(NOT_THERE)
    best = best_of(corners_of(program), program.goal)
    return [0] + value_of(program.goal, best) + fractions_of(best)


def multipliers(instance, numbers, rows):
    """Answers how many constraints there are, and the multipliers."""
    program = instance.program
    if status_of(program) != OPTIMAL:
        return refusal(NOT_THERE)
    dual = dual_of(program)
    best = best_of(corners_of(dual), dual.goal)
    return [dual.width] + fractions_of(best)


def refutation(instance, numbers, rows):
    """Answers how many constraints there are, and the first refutation."""
    dual = dual_of(instance.program)
    # The dual program's objective is minus the bounds, so its improving rays are the refutations.
    found = improving_rays_of(dual)
    if len(found) == 0:
        return refusal(NOT_THERE)
    return [dual.width] + fractions_of(first_of(found))


def ray(instance, numbers, rows):
    """Answers how many variables there are, and the first one of the best rays."""
    program = instance.program
    if status_of(program) != UNBOUNDED:
        return refusal(NOT_THERE)
    best = best_of(improving_rays_of(program), program.goal)
    return [program.width] + fractions_of(best)


def corners(instance, numbers, rows):
    """Answers how many different corners there are."""
    return [len(corners_of(instance.program))]


def is_feasible(instance, numbers, rows):
    """Answers 1 if the vector is feasible, otherwise 0."""
    program = instance.program
    nums = rows[0]
    dens = rows[1]
    if not is_vector(nums, dens, program.width):
        return refusal(BAD_ARGUMENT)
    return [1 if keeps_to(program, point_of(nums, dens)) else 0]


OPERATIONS = {
    0: create,
    1: add_constraint,
    2: remove_constraint,
    3: set_objective,
    4: set_cycle,
    5: status,
    6: optimum,
    7: multipliers,
    8: refutation,
    9: ray,
    10: corners,
    11: is_feasible,
}


def answer_of(instance, number, numbers, rows):
    """The answer to the call with this number."""
    if number != CREATE and instance.program is None:
        return refusal(NO_INSTANCE)
    if number not in OPERATIONS:
        raise NotImplementedError(f"call {number} is not built yet")
    return OPERATIONS[number](instance, numbers, rows)
