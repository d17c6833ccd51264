"""The operations: each takes the instance, the whole numbers and the rows of a call, and gives its answer."""

from cornerbounds.limits import MOST_CONSTRAINTS, are_coefficients, is_coefficient, is_cycle, is_most
from cornerbounds.limits import is_variables, is_vector
from cornerbounds.networks import Cycle, asymptotic_bounds, balanced_bounds, exact_throughputs, saturation_of
from cornerbounds.points import best_of, dot, first_of, fractions_of, lowest, point_of, value_of
from cornerbounds.programs import OPTIMAL, UNBOUNDED, Program, corners_of, dual_of, improving_rays_of
from cornerbounds.programs import is_improving, keeps_to, proven_bound_of, status_of
from cornerbounds.refusals import BAD_ARGUMENT, CONSTRAINTS_FULL, NOT_THERE, NO_CONSTRAINT, NO_CYCLE, NO_INSTANCE
from cornerbounds.refusals import refusal

CREATE = 0


def create(instance, numbers, rows):
    """Begins a program without constraints, in the place of what was there."""
    width = numbers[0]
    if not is_variables(width):
        return refusal(BAD_ARGUMENT)
    instance.program = Program(width, [], [0] * width)
    instance.cycle = None
    return [0]


def add_constraint(instance, numbers, rows):
    """Adds a constraint and answers its number."""
    program = instance.program
    bound = numbers[0]
    coefficients = rows[0]
    if not is_coefficient(bound) or not are_coefficients(coefficients, program.width):
        return refusal(BAD_ARGUMENT)
    count = len(program.rows)
    if count == MOST_CONSTRAINTS:
        return refusal(CONSTRAINTS_FULL)
    instance.program = Program(program.width, program.rows + [coefficients + [-bound]], program.goal)
    return [count]


def remove_constraint(instance, numbers, rows):
    """Removes a constraint and answers how many remain."""
    program = instance.program
    place = numbers[0]
    if place >= len(program.rows):
        return refusal(NO_CONSTRAINT)
    remaining = program.rows[:place] + program.rows[place + 1:]
    instance.program = Program(program.width, remaining, program.goal)
    return [len(remaining)]


def set_objective(instance, numbers, rows):
    """Changes the objective."""
    program = instance.program
    coefficients = rows[0]
    if not are_coefficients(coefficients, program.width):
        return refusal(BAD_ARGUMENT)
    instance.program = Program(program.width, program.rows, coefficients)
    return [0]


def set_cycle(instance, numbers, rows):
    """Replaces the cycle."""
    think = numbers[0]
    customers = numbers[1]
    demands = rows[0]
    if not is_cycle(think, customers, demands):
        return refusal(BAD_ARGUMENT)
    instance.cycle = Cycle(think, customers, demands)
    return [0]


def status(instance, numbers, rows):
    """Answers the status of the program."""
    return [status_of(instance.program)]


def optimum(instance, numbers, rows):
    """Answers the value of the optimum, and the optimum."""
    program = instance.program
    if status_of(program) != OPTIMAL:
        return refusal(NOT_THERE)
    best = best_of(corners_of(program), program.goal)
    return [0] + value_of(program.goal, best) + fractions_of(best)


def multipliers(instance, numbers, rows):
    """Answers how many constraints there are, and the multipliers."""
    program = instance.program
    if status_of(program) != OPTIMAL:
        return refusal(NOT_THERE)
    dual = dual_of(program)
    best = best_of(corners_of(dual), dual.goal)
    return [dual.width] + fractions_of(best)


def refutation(instance, numbers, rows):
    """Answers how many constraints there are, and the first refutation."""
    dual = dual_of(instance.program)
    # The dual program's objective is minus the bounds, so its improving rays are the refutations.
    found = improving_rays_of(dual)
    if len(found) == 0:
        return refusal(NOT_THERE)
    return [dual.width] + fractions_of(first_of(found))


def ray(instance, numbers, rows):
    """Answers how many variables there are, and the first one of the best rays."""
    program = instance.program
    if status_of(program) != UNBOUNDED:
        return refusal(NOT_THERE)
    best = best_of(improving_rays_of(program), program.goal)
    return [program.width] + fractions_of(best)


def corners(instance, numbers, rows):
    """Answers how many different corners there are."""
    return [len(corners_of(instance.program))]


def is_feasible(instance, numbers, rows):
    """Answers 1 if the vector is feasible, otherwise 0."""
    program = instance.program
    nums = rows[0]
    dens = rows[1]
    if not is_vector(nums, dens, program.width):
        return refusal(BAD_ARGUMENT)
    return [1 if keeps_to(program, point_of(nums, dens)) else 0]


def slack(instance, numbers, rows):
    """Answers how much room the vector leaves below the bound of a constraint."""
    program = instance.program
    place = numbers[0]
    if place >= len(program.rows):
        return refusal(NO_CONSTRAINT)
    nums = rows[0]
    dens = rows[1]
    if not is_vector(nums, dens, program.width):
        return refusal(BAD_ARGUMENT)
    point = point_of(nums, dens)
    return [0] + lowest(-dot(program.rows[place], point), point[-1])


def check_bound(instance, numbers, rows):
    """Answers the proven bound of the vector."""
    program = instance.program
    dual = dual_of(program)
    nums = rows[0]
    dens = rows[1]
    if not is_vector(nums, dens, dual.width):
        return refusal(BAD_ARGUMENT)
    point = point_of(nums, dens)
    if not keeps_to(dual, point):
        return refusal(NOT_THERE)
    return [0] + proven_bound_of(program, point)


def check_refutation(instance, numbers, rows):
    """Answers 1 if the vector is a refutation, otherwise 0."""
    dual = dual_of(instance.program)
    nums = rows[0]
    dens = rows[1]
    if not is_vector(nums, dens, dual.width):
        return refusal(BAD_ARGUMENT)
    # The dual program's objective is minus the bounds, so its improving directions are the refutations.
    return [1 if is_improving(dual, point_of(nums, dens)) else 0]


def check_ray(instance, numbers, rows):
    """Answers 1 if the vector is an improving direction, otherwise 0."""
    program = instance.program
    nums = rows[0]
    dens = rows[1]
    if not is_vector(nums, dens, program.width):
        return refusal(BAD_ARGUMENT)
    return [1 if is_improving(program, point_of(nums, dens)) else 0]


def check_optimum(instance, numbers, rows):
    """Answers 1 if both vectors are feasible, each in its program, and have the same value; otherwise 0."""
    program = instance.program
    dual = dual_of(program)
    if not is_vector(rows[0], rows[1], program.width) or not is_vector(rows[2], rows[3], dual.width):
        return refusal(BAD_ARGUMENT)
    point = point_of(rows[0], rows[1])
    weights = point_of(rows[2], rows[3])
    if not keeps_to(program, point) or not keeps_to(dual, weights):
        return [0]
    return [1 if value_of(program.goal, point) == proven_bound_of(program, weights) else 0]


def asymptotic(instance, numbers, rows):
    """Answers the asymptotic bounds."""
    if instance.cycle is None:
        return refusal(NO_CYCLE)
    return [0] + asymptotic_bounds(instance.cycle)


def balanced(instance, numbers, rows):
    """Answers the balanced bounds."""
    if instance.cycle is None:
        return refusal(NO_CYCLE)
    return [0] + balanced_bounds(instance.cycle)


def exact(instance, numbers, rows):
    """Answers the exact throughput."""
    cycle = instance.cycle
    if cycle is None:
        return refusal(NO_CYCLE)
    return [0] + exact_throughputs(cycle, cycle.customers)[-1]


def saturation(instance, numbers, rows):
    """Answers the saturation."""
    if instance.cycle is None:
        return refusal(NO_CYCLE)
    return [0] + saturation_of(instance.cycle)


def exact_curve(instance, numbers, rows):
    """Answers how many fractions there are, and the exact throughput for each number of customers."""
    if instance.cycle is None:
        return refusal(NO_CYCLE)
    most = numbers[0]
    if not is_most(most):
        return refusal(BAD_ARGUMENT)
    curve = exact_throughputs(instance.cycle, most)
    answer = [len(curve)]
    for fraction in curve:
        answer.extend(fraction)
    return answer


def summary(instance, numbers, rows):
    """Answers how many variables, constraints and queues there are."""
    program = instance.program
    queues = 0 if instance.cycle is None else len(instance.cycle.demands)
    return [program.width, len(program.rows), queues]


OPERATIONS = {
    0: create,
    1: add_constraint,
    2: remove_constraint,
    3: set_objective,
    4: set_cycle,
    5: status,
    6: optimum,
    7: multipliers,
    8: refutation,
    9: ray,
    10: corners,
    11: is_feasible,
    12: slack,
    13: check_bound,
    14: check_refutation,
    15: check_ray,
    16: check_optimum,
    17: asymptotic,
    18: balanced,
    19: exact,
    20: saturation,
    21: exact_curve,
    22: summary,
}


def answer_of(instance, number, numbers, rows):
    """The answer to the call with this number."""
    if number != CREATE and instance.program is None:
        return refusal(NO_INSTANCE)
    return OPERATIONS[number](instance, numbers, rows)
