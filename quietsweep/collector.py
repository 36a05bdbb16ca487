"""The collector of one house: it marks, sweeps, moves and heals step by step, and rests in between."""

from quietsweep.heap import LAST_WORDS, NOTHING, PLAIN, REGION_WORDS, REGIONS, WEAK

RESTS = 0
MARKS = 1
SWEEPS = 2
MOVES = 3
HEALS = 4


class Collector:
    """What it does, what waits to be looked at (places), and what is to do (regions, or places)."""

    def __init__(self, heap, roots):
        self.heap = heap
        self.roots = roots
        self.doing = RESTS
        self.to_look_at = []
        self.to_do = []
        self.to_empty = []
        self.pay = 0
        self.low = 0
        self.pauses = 0
        self.longest = 0
        self.rounds = 0

    def pay_for(self, words):
        """What allocating so many words pays."""
        if self.doing == RESTS and self.pay != 0 and len(self.heap.free_regions()) <= self.low:
            self.begin()
        self.steps(self.pay * words)

    def steps(self, count):
        """So many steps; when it rests nothing more is done."""
        for turn in range(count):
            self.step()

    def finish(self):
        """Steps, till it rests."""
        while self.doing != RESTS:
            self.step()

    def step(self):
        if self.doing == MARKS:
            self.mark()
        elif self.doing == SWEEPS:
            self.sweep()
        elif self.doing == MOVES:
            self.move()
        elif self.doing == HEALS:
            self.heal()

    def pause(self, length):
        self.pauses += 1
        self.longest = max(self.longest, length)

    def rest(self):
        """A round is done."""
        self.doing = RESTS
        self.rounds += 1

    def begin(self):
        """Begin a round; asked only while it rests."""
        for thing in self.heap.things.values():
            thing.marked = False
        self.doing = MARKS
        held = self.roots.every_place()
        self.shade_all(held)
        self.pause(len(held))

    def shade(self, place):
        """Mark the thing of a place, if it isn't marked; it waits to be looked at then."""
        if place == NOTHING or self.heap.things[place].marked:
            return
        self.heap.things[place].marked = True
        self.to_look_at.append(place)

    def shade_all(self, places):
        for place in places:
            self.shade(place)

    def shade_while_marking(self, place):
        """The barrier: what a thread overwrites in a field, or finds in a weak one, isn't to be missed."""
        if self.doing == MARKS:
            self.shade(place)

    def mark(self):
        """A step while it marks."""
        if len(self.to_look_at) > 0:
            self.look_at(self.heap.things[self.to_look_at.pop(0)])
            return
        dying = self.dying_places()
        if len(dying) > 0:
            self.ask_for_last_words(dying)
            return
        self.let_weak_ones_go()
        self.doing = SWEEPS
        self.to_do = list(range(1, REGIONS + 1))

    def look_at(self, thing):
        # What a weak one is for is not kept alive by it.
        if thing.kind != WEAK:
            self.shade_all(thing.fields)

    def dying_places(self):
        """The places of the things that have last words and aren't marked, by the things' numbers."""
        things = self.heap.things
        dying = [place for place in things if things[place].kind == LAST_WORDS and not things[place].marked]
        return sorted(dying, key=self.heap.number_at)

    def ask_for_last_words(self, dying):
        """The dying wait with their last words, which are told once: they're plain from now on."""
        for place in dying:
            self.heap.things[place].kind = PLAIN
        self.roots.waiting.extend(dying)
        self.shade_all(dying)

    def let_weak_ones_go(self):
        """Each weak one lets go of what isn't marked."""
        weak_ones = [thing for thing in self.heap.things.values() if thing.kind == WEAK]
        for thing in weak_ones:
            place = thing.fields[0]
            if place != NOTHING and not self.heap.things[place].marked:
                thing.fields = [NOTHING]
        self.pause(len(weak_ones))

    def sweep(self):
        """A step while it sweeps."""
        if len(self.to_do) > 0:
            self.sweep_region(self.to_do.pop(0))
            return
        self.to_empty = self.sparse_regions()
        if len(self.to_empty) == 0:
            self.rest()
            return
        self.doing = MOVES
        for region in self.to_empty:
            self.to_do.extend(self.heap.lying_in(region))

    def sweep_region(self, region):
        self.heap.take_away([p for p in self.heap.lying_in(region) if not self.heap.things[p].marked])
        self.heap.take_back(region)

    def sparse_regions(self):
        """The regions, but the current one, in which something lies, and in not more than half their words."""
        sparse = []
        for region in range(1, REGIONS + 1):
            words = self.heap.words_lying_in(region)
            if region != self.heap.current and words > 0 and 2 * words <= REGION_WORDS:
                sparse.append(region)
        return sparse

    def move(self):
        """A step while it moves."""
        if len(self.to_do) == 0:
            self.doing = HEALS
            self.to_do = self.heap.unmoved()
        elif not self.heap.move(self.to_do.pop(0)):
            self.to_do = []

    def heal(self):
        """A step while it heals."""
        if len(self.to_do) > 0:
            thing = self.heap.things[self.to_do.pop(0)]
            thing.fields = [self.heap.now(place) for place in thing.fields]
            return
        self.pause(len(self.roots.every_place()))
        self.roots.heal(self.heap)
        self.leave_emptied_regions()
        self.rest()

    def leave_emptied_regions(self):
        """Things that have moved aren't there any more, where they were."""
        for region in self.to_empty:
            self.heap.take_away([p for p in self.heap.lying_in(region) if self.heap.things[p].moved != NOTHING])
            self.heap.take_back(region)
        self.to_empty = []
