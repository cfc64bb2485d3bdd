"""A memory: a clock, and the things that are remembered, in their order."""

LAST_MOMENT = 4294967295
MOST_OFTEN = 65535
MOST_THINGS = 64
LONGEST_ROW = 32


class Thing:
    """A reading and a text, the moment it was chosen last, and how often it was chosen.

    Nobody changes a thing once it's made, so memories may share one.
    """

    def __init__(self, reading, text, moment, often):
        self.reading = reading
        self.text = text
        self.moment = moment
        self.often = often


class Memory:
    """The object that is called; new, its clock is 0 and it has no things."""

    def __init__(self):
        self.clock = 0
        self.things = []

    def often_of(self, reading, text):
        """How often the text was chosen for the reading; 0 if it isn't remembered."""
        for thing in self.things:
            if is_of(thing, reading, text):
                return thing.often
        return 0

    def has(self, reading, text):
        return self.often_of(reading, text) > 0

    def without(self, reading, text):
        return [thing for thing in self.things if not is_of(thing, reading, text)]

    def places_of(self, reading):
        return [place for place, thing in enumerate(self.things) if thing.reading == reading]

    def places_beginning(self, reading):
        """The places of the things whose reading begins so, or is just this one."""
        return [place for place, thing in enumerate(self.things) if thing.reading[:len(reading)] == reading]

    def note(self, reading, text):
        """The text was chosen for the reading now. Gives back how often it was by now."""
        self.clock = self.clock + 1
        often = min(self.often_of(reading, text) + 1, MOST_OFTEN)
        noted = Thing(reading, text, self.clock, often)
        # No moment was above the clock: the noted thing is later than all others,
        # so it's the first in order, and the last of 65 is never it.
        self.things = ([noted] + self.without(reading, text))[:MOST_THINGS]
        return often

    def forget(self, reading, text):
        self.things = self.without(reading, text)

    def put_together(self, other):
        """Makes this memory the two of them put together; the other stays as it is."""
        self.clock = max(self.clock, other.clock)
        self.things = in_order(latest(self.things + other.things))[:MOST_THINGS]


def is_of(thing, reading, text):
    return thing.reading == reading and thing.text == text


def in_order(things):
    return sorted(things, key=rank)


def rank(thing):
    # Python compares lists as the document compares rows.
    return (-thing.moment, thing.reading, thing.text)


def latest(things):
    """Of each reading and text the thing with the later moment, of one moment the more often."""
    kept = {}
    for thing in things:
        rows = (tuple(thing.reading), tuple(thing.text))
        if rows not in kept or weight(thing) > weight(kept[rows]):
            kept[rows] = thing
    return list(kept.values())


def weight(thing):
    return (thing.moment, thing.often)


def cheaper(cost, often):
    """What a word costs that was chosen so often, and that costs so much unremembered."""
    if often == 0:
        return cost
    if often == 1:
        return 3 * cost // 4
    if often == 2:
        return cost // 2
    return cost // 4
