"""Things, and the regions in which they lie."""

NOTHING = 0

PLAIN = 0
WEAK = 1
LAST_WORDS = 2

REGIONS = 8
REGION_WORDS = 16
WORDS_BESIDE_FIELDS = 2


class Thing:
    """A thing: its fields hold the places of other things, or NOTHING."""

    def __init__(self, number, kind, fields):
        self.number = number
        self.kind = kind
        self.fields = [NOTHING] * fields
        self.value = 0


class Heap:
    """All things by their places, and how much of each region is given out."""

    def __init__(self):
        self.things = {}
        self.made = 0
        self.current = 1
        self.given_out = {}
        for region in range(1, REGIONS + 1):
            self.given_out[region] = 0

    def free_regions(self):
        """The free regions, the lowest number first."""
        return [r for r in range(1, REGIONS + 1) if self.given_out[r] == 0 and r != self.current]

    def take_room(self, words):
        """The place where so many words are given out now; NOTHING if there is no room."""
        if self.given_out[self.current] + words > REGION_WORDS:
            free = self.free_regions()
            if len(free) == 0:
                return NOTHING
            self.current = free[0]
        place = REGION_WORDS * self.current + self.given_out[self.current]
        self.given_out[self.current] += words
        return place

    def make(self, kind, fields):
        """The place of a new thing; NOTHING, and no number used up, if there is no room."""
        place = self.take_room(fields + WORDS_BESIDE_FIELDS)
        if place != NOTHING:
            self.made += 1
            self.things[place] = Thing(self.made, kind, fields)
        return place

    def number_at(self, place):
        """The number of the thing at a place, as it is answered."""
        if place == NOTHING:
            return 0
        return self.things[place].number
