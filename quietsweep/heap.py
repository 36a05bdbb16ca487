"""Things, and the regions in which they lie."""

NOTHING = 0

PLAIN = 0
WEAK = 1
LAST_WORDS = 2

REGIONS = 8
REGION_WORDS = 16
WORDS_BESIDE_FIELDS = 2


class Thing:
    """A thing: its fields hold the places of other things, or NOTHING."""

    def __init__(self, number, kind, fields):
        self.number = number
        self.kind = kind
        self.fields = [NOTHING] * fields
        self.value = 0
        # Marked from the first, so that the round that is going on doesn't take it.
        self.marked = True
        self.moved = NOTHING


def alike(thing):
    """Another thing that is as this one, but hasn't moved."""
    other = Thing(thing.number, thing.kind, 0)
    other.fields = list(thing.fields)
    other.value = thing.value
    other.marked = thing.marked
    return other


def words_for(fields):
    """How many words a thing of so many fields takes."""
    return fields + WORDS_BESIDE_FIELDS


class Heap:
    """All things by their places, and how much of each region is given out."""

    def __init__(self):
        self.things = {}
        self.made = 0
        self.current = 1
        self.given_out = {}
        for region in range(1, REGIONS + 1):
            self.given_out[region] = 0

    def free_regions(self):
        """The free regions, the lowest number first."""
        return [r for r in range(1, REGIONS + 1) if self.given_out[r] == 0 and r != self.current]

    def take_room(self, words):
        """The place where so many words are given out now; NOTHING if there is no room."""
        if self.given_out[self.current] + words > REGION_WORDS:
            free = self.free_regions()
            if len(free) == 0:
                return NOTHING
            self.current = free[0]
        place = REGION_WORDS * self.current + self.given_out[self.current]
        self.given_out[self.current] += words
        return place

    def make(self, kind, fields):
        """The place of a new thing; NOTHING, and no number used up, if there is no room."""
        place = self.take_room(words_for(fields))
        if place != NOTHING:
            self.made += 1
            self.things[place] = Thing(self.made, kind, fields)
        return place

    def move(self, place):
        """Whether there was room to which the thing at a place has moved."""
        thing = self.things[place]
        target = self.take_room(words_for(len(thing.fields)))
        if target == NOTHING:
            return False
        self.things[target] = alike(thing)
        thing.moved = target
        return True

    def now(self, place):
        """Where the thing of a place is now."""
        if place == NOTHING or self.things[place].moved == NOTHING:
            return place
        return self.things[place].moved

    def number_at(self, place):
        """The number of the thing at a place, as it is answered."""
        # Beside NOTHING there are the places that a dead thing's fields still hold when a sweep has emptied them.
        thing = self.things.get(place)
        if thing is None:
            return 0
        return thing.number

    def unmoved(self):
        """The places of all things that haven't moved, in order."""
        return sorted([place for place in self.things if self.things[place].moved == NOTHING])

    def lying_in(self, region):
        """The places of the things that lie in a region, in order; those that have moved, too."""
        return sorted([place for place in self.things if place // REGION_WORDS == region])

    def words_lying_in(self, region):
        """How many words the things take that lie in a region."""
        return sum([words_for(len(self.things[place].fields)) for place in self.lying_in(region)])

    def take_away(self, places):
        """The things of these places aren't there any more."""
        for place in places:
            self.things.pop(place)

    def take_back(self, region):
        """Nothing of a region is given out any more, if no thing lies in it."""
        if len(self.lying_in(region)) == 0:
            self.given_out[region] = 0
