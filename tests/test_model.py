"""Many lists of calls, against a second program that has all it can from Python's own library.

The lists are drawn from written seeds, so each run draws the same ones.
"""

import random
import re
import unittest

from helper import CALLS, COUNT, LAST_MOMENT, WRITE, ask, counted, draw_calls, draw_text, join, read

MAY_STAND = "[^\x00-\x20\x7f]"
DECIMAL = "(0|[1-9][0-9]*)"
FIRST_LINE = re.compile(DECIMAL, re.ASCII)
THING_LINE = re.compile(f"({MAY_STAND}+) ({MAY_STAND}+) {DECIMAL} {DECIMAL}", re.ASCII)


def model_line(line, clock, things):
    """What a line is found to be: its kind of fault (0 for none) and what it tells."""
    try:
        words = line.decode("utf-8")
    except UnicodeDecodeError:
        return 1, None
    if clock is None:
        found = FIRST_LINE.fullmatch(words)
        return (1, None) if not found else (2 if len(words) > 10 or int(words) > LAST_MOMENT else 0, words)
    found = THING_LINE.fullmatch(words)
    if not found:
        return 1, None
    reading, text, moment, often = found.groups()
    if len(reading) > 32 or len(text) > 32 or len(moment) > 10 or len(often) > 5:
        return 2, None
    if not 1 <= int(moment) <= clock or not 1 <= int(often) <= 65535:
        return 2, None
    if (reading, text) in things:
        return 3, None
    return (4, None) if len(things) == 64 else (0, ((reading, text), (int(moment), int(often))))


def model_read(octets):
    """The fault, or None, and the clock and things."""
    clock, things = None, {}
    lines = bytes(octets).split(b"\n")
    for number, line in enumerate(lines):
        if number == len(lines) - 1 and (line or number == 0):
            return [-2, number, 1], None
        if number == len(lines) - 1:
            return None, (clock, things)
        kind, told = model_line(line, clock, things)
        if kind:
            return [-2, number, kind], None
        if clock is None:
            clock = int(told)
        else:
            things[told[0]] = told[1]


def is_character(number):
    return number < 0x110000 and not 0xD800 <= number <= 0xDFFF


def refused(rows):
    """What a call is refused with for the rows of a thing; None if for none."""
    if max(len(row) for row in rows) > 32:
        return [-1]
    for row in rows:
        if not row or any(not is_character(number) or number <= 0x20 or number == 0x7F for number in row):
            return [-3]
    return None


def told(row):
    return "".join(map(chr, row))


def in_order(things):
    # Python orders texts by their characters' numbers.
    return sorted(things.items(), key=lambda item: (-item[1][0], item[0]))


class Model:
    def __init__(self):
        self.clock = 0
        self.things = {}

    def begin(self):
        self.__init__()
        return [0]

    def read(self, octets):
        refusal, found = model_read(octets)
        if refusal:
            return refusal
        self.clock, self.things = found
        return [len(self.things)]

    def write(self):
        lines = [f"{self.clock}\n"]
        for (reading, text), (moment, often) in in_order(self.things):
            lines.append(f"{reading} {text} {moment} {often}\n")
        return counted(list("".join(lines).encode("utf-8")))

    def count(self):
        return [len(self.things), self.clock]

    def get(self, i):
        if i >= len(self.things):
            return [-4]
        (reading, text), (moment, often) = in_order(self.things)[i]
        return [0, moment, often] + counted([ord(c) for c in reading]) + counted([ord(c) for c in text])

    def note(self, reading, text):
        if refused([reading, text]):
            return refused([reading, text])
        if self.clock == LAST_MOMENT:
            return [-6]
        key = (told(reading), told(text))
        self.clock += 1
        often = min(65535, self.things.get(key, (0, 0))[1] + 1)
        self.things[key] = (self.clock, often)
        self.things = dict(in_order(self.things)[:64])
        return [often]

    def forget(self, reading, text):
        if refused([reading, text]):
            return refused([reading, text])
        return [0] if self.things.pop((told(reading), told(text)), None) else [-5]

    def of(self, j, reading):
        return self.sought(j, reading, lambda other, row: other == row)

    def goes(self, j, reading):
        return self.sought(j, reading, str.startswith)

    def sought(self, j, reading, fits):
        if len(reading) > 32:
            return [-1]
        if not all(map(is_character, reading)):
            return [-3]
        places = [n for n, item in enumerate(in_order(self.things)) if fits(item[0][0], told(reading))]
        return [-5] if j >= len(places) else [places[j]]

    def cost(self, c, reading, text):
        if c > 65535 or refused([reading, text]):
            return [-1] if c > 65535 else refused([reading, text])
        moment, often = self.things.get((told(reading), told(text)), (0, 0))
        return [c * (4, 3, 2, 1)[min(often, 3)] // 4]

    def join(self, octets):
        refusal, found = model_read(octets)
        if refusal:
            return refusal
        clock, others = found
        self.clock = max(self.clock, clock)
        both = {key: max(self.things.get(key, (0, 0)), others.get(key, (0, 0))) for key in {**self.things, **others}}
        self.things = dict(in_order(both)[:64])
        return [len(self.things)]


def answered(model, drawn):
    return [getattr(model, name)(*given) for name, given in drawn]


class ModelTest(unittest.TestCase):
    def test_lists_of_calls(self):
        seen = {}
        for seed in range(300):
            drawn = draw_calls(random.Random(seed))
            expected = answered(Model(), drawn)
            self.assertEqual(ask(*[CALLS[name](*given) for name, given in drawn]), expected, f"seed {seed}")
            for (name, given), answer in zip(drawn, expected):
                outcome = (name, min(answer[0], 0))
                seen[outcome] = seen.get(outcome, 0) + 1
        self.assertEqual(sorted(seen), sorted(OUTCOMES))
        self.assertGreater(min(seen.values()), 20, seen)

    def test_texts(self):
        kinds = {}
        for seed in range(1500):
            octets = draw_text(random.Random(seed))
            for name in ("read", "join"):
                drawn = [(name, (octets,)), ("write", ()), ("count", ())]
                expected = answered(Model(), drawn)
                self.assertEqual(ask(CALLS[name](octets), WRITE, COUNT), expected, f"seed {seed}")
            kind = expected[0][2] if expected[0][0] == -2 else 0
            kinds[kind] = kinds.get(kind, 0) + 1
        # The draw is of use only as long as it brings all that a text can be.
        self.assertEqual(sorted(kinds), [0, 1, 2, 3, 4])
        self.assertGreater(min(kinds.values()), 20)

    def test_memories_put_together(self):
        for seed in range(500):
            draw = random.Random(seed)
            one, other, third = draw_text(draw), draw_text(draw), draw_text(draw)
            drawn = [("read", (one,)), ("join", (other,)), ("write", ()), ("join", (third,)), ("write", ())]
            told_so = ask(read(one), join(other), WRITE, join(third), WRITE)
            self.assertEqual(told_so, answered(Model(), drawn), f"seed {seed}")


# What the drawn lists are to bring: each call taken, and refused for each cause that it can be.
OUTCOMES = [(name, 0) for name in CALLS] + [
    ("read", -2), ("join", -2), ("get", -4), ("note", -1), ("note", -3), ("note", -6),
    ("forget", -1), ("forget", -3), ("forget", -5), ("of", -1), ("of", -3), ("of", -5),
    ("goes", -1), ("goes", -3), ("goes", -5), ("cost", -1), ("cost", -3),
]


if __name__ == "__main__":
    unittest.main()
