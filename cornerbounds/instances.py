"""What the calls work on."""


class Instance:
    """A program and a cycle; program is None until one is created, cycle is None while there is none."""

    def __init__(self):
        self.program = None
        self.cycle = None
