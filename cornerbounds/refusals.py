"""The errors that a call can answer."""

# An error is answered as its number below 0; here the numbers stand without their sign.
NO_CONSTRAINT = 2
NO_CYCLE = 6
NO_INSTANCE = 11
BAD_ARGUMENT = 22
CONSTRAINTS_FULL = 28
NOT_THERE = 33


def refusal(number):
    """The answer of a call that is refused with this error."""
    return [-number]
