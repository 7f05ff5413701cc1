"""An order: a row of entries, each of which differs by a strength from what stands before it."""

MOST_ENTRIES = 1024
NO_PLACE = -1


class Entry:
    # An entry is never changed, so that orders may share it; its strings are tuples.
    def __init__(self, string, strength, light, counts_as):
        self.string = string
        self.strength = strength
        self.light = light
        self.counts_as = counts_as

    def with_strength(self, strength):
        return Entry(self.string, strength, self.light, self.counts_as)


class Order:
    def __init__(self, entries):
        self.entries = list(entries)

    def place_of(self, string):
        for place, entry in enumerate(self.entries):
            if entry.string == string:
                return place
        return NO_PLACE

    def last_string(self):
        if len(self.entries) == 0:
            return None
        return self.entries[len(self.entries) - 1].string

    def has_room_for(self, string):
        return len(self.entries) < MOST_ENTRIES or self.place_of(string) != NO_PLACE

    # behind is the string of the entry that this one follows, None if there are no entries.
    def put(self, entry, behind):
        self.take_out(entry.string)
        place = 0
        if behind is not None:
            place = self.place_of(behind) + 1
            while place < len(self.entries) and self.entries[place].strength > entry.strength:
                place += 1
        self.entries.insert(place, entry)

    def take_out(self, string):
        place = self.place_of(string)
        if place == NO_PLACE:
            return
        taken = self.entries.pop(place)
        if place < len(self.entries):
            follower = self.entries[place]
            self.entries[place] = follower.with_strength(min(taken.strength, follower.strength))
