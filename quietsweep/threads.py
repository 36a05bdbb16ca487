"""The house as its threads come to it: a thing is always meant where it is now."""

from quietsweep.collector import Collector
from quietsweep.heap import Heap, words_for
from quietsweep.roots import Roots


class House:
    """A house at its beginning: no things, nothing held anywhere, and the collector rests."""

    def __init__(self):
        self.heap = Heap()
        self.roots = Roots()
        self.collector = Collector(self.heap, self.roots)

    def place_in(self, thread, r):
        """Where the thing in register r of the thread is now; NOTHING if there is none."""
        return self.heap.now(self.roots.registers[thread][r])

    def thing_in(self, thread, r):
        """The thing in register r of the thread, or None."""
        return self.heap.things.get(self.place_in(thread, r))

    def number_in(self, thread, r):
        """The number of the thing in register r of the thread; 0 if there is none."""
        return self.heap.number_at(self.place_in(thread, r))

    def hold(self, thread, r, place):
        """Put the thing of a place into register r of the thread, and answer its number."""
        self.roots.registers[thread][r] = self.heap.now(place)
        return self.heap.number_at(place)

    def make(self, kind, fields):
        """Pay for a new thing's words, then its place; NOTHING if there is no room by then."""
        self.collector.pay_for(words_for(fields))
        return self.heap.make(kind, fields)
