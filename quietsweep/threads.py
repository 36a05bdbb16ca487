"""What the threads of one house hold: their registers, and the names that they share."""

from quietsweep.heap import NOTHING, Heap

THREADS = 3
REGISTERS = 4
NAMES = 4


class House:
    """A house at its beginning: no things, and nothing held anywhere."""

    def __init__(self):
        self.heap = Heap()
        self.names = [NOTHING] * NAMES
        self.registers = {}
        for thread in range(1, THREADS + 1):
            self.registers[thread] = [NOTHING] * REGISTERS

    def place_in(self, thread, r):
        """What register r of the thread holds."""
        return self.registers[thread][r]

    def thing_in(self, thread, r):
        """The thing in register r of the thread, or None."""
        return self.heap.things.get(self.place_in(thread, r))

    def number_in(self, thread, r):
        """The number of the thing in register r of the thread; 0 if there is none."""
        return self.heap.number_at(self.place_in(thread, r))

    def hold(self, thread, r, place):
        """Put what is at the place into register r of the thread, and answer its number."""
        self.registers[thread][r] = place
        return self.heap.number_at(place)
