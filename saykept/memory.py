"""A memory: a clock, and the things that are remembered, in their order."""

LAST_MOMENT = 4294967295
MOST_OFTEN = 65535
MOST_THINGS = 64
LONGEST_ROW = 32


class Thing:
    """A reading and a text, the moment it was chosen last, and how often it was chosen.

    Nobody changes a thing once it's made, so memories may share one.
    """

    def __init__(self, reading, text, moment, often):
        self.reading = reading
        self.text = text
        self.moment = moment
        self.often = often


class Memory:
    """The object that is called; new, its clock is 0 and it has no things."""

    def __init__(self):
        self.clock = 0
        self.things = []

    def has(self, reading, text):
        return any([is_of(thing, reading, text) for thing in self.things])

    def note(self, reading, text):
        """The text was chosen for the reading now. Gives back how often it was by now."""
        self.clock = self.clock + 1
        often = 1
        others = []
        for thing in self.things:
            if is_of(thing, reading, text):
                often = min(thing.often + 1, MOST_OFTEN)
            else:
                others.append(thing)
        # No moment was above the clock: the noted thing is later than all others,
        # so it's the first in order, and the last of 65 is never it.
        noted = [Thing(reading, text, self.clock, often)] + others
        self.things = noted[:MOST_THINGS]
        return often


def is_of(thing, reading, text):
    return thing.reading == reading and thing.text == text


def in_order(things):
    return sorted(things, key=rank)


def rank(thing):
    # Python compares lists as the document compares rows.
    return (-thing.moment, thing.reading, thing.text)
