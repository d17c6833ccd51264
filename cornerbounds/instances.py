"""What the calls work on."""


class Cycle:
    """A closed network."""

    def __init__(self, think, customers, demands):
        self.think = think
        self.customers = customers
        self.demands = demands


class Instance:
    """A program and a cycle; program is None until one is created, cycle is None while there is none."""

    def __init__(self):
        self.program = None
        self.cycle = None
