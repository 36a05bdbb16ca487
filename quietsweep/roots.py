"""The roots of one house: what its threads hold, and the things whose last words wait."""

from quietsweep.heap import NOTHING

THREADS = 3
REGISTERS = 4
NAMES = 4


class Roots:
    """Each root holds a thing's place or NOTHING; the place may be an old one while things move."""

    def __init__(self):
        self.registers = {}
        for thread in range(1, THREADS + 1):
            self.registers[thread] = [NOTHING] * REGISTERS
        self.names = [NOTHING] * NAMES
        self.waiting = []

    def every_place(self):
        """What all roots hold: registers, thread by thread, names, those that wait."""
        held = []
        for thread in range(1, THREADS + 1):
            held.extend(self.registers[thread])
        return held + self.names + self.waiting

    def heal(self, heap):
        """All roots refer to where their things are now."""
        for thread in range(1, THREADS + 1):
            self.registers[thread] = [heap.now(place) for place in self.registers[thread]]
        self.names = [heap.now(place) for place in self.names]
        self.waiting = [heap.now(place) for place in self.waiting]
