"""The one function that others call."""

from cornerbounds.instances import Instance
from cornerbounds.operations import answer_of
from cornerbounds.reading import read_calls


def answers(calls):
    """The answers to the calls in order, each with how many numbers it has before it."""
    instance = Instance()
    given = []
    for number, numbers, rows in read_calls(calls):
        answer = answer_of(instance, number, numbers, rows)
        given.append(len(answer))
        given.extend(answer)
    return given
