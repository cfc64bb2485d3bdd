"""Many lists of calls, against a second program that has all it can from Python's own library.

The lists are drawn from written seeds, so each run draws the same ones.
"""

import random
import re
import unittest

from helper import BEGIN, COUNT, LAST_MOMENT, WRITE, ask, counted, get, note, read

MAY_STAND = "[^\x00-\x20\x7f]"
DECIMAL = "(0|[1-9][0-9]*)"
FIRST_LINE = re.compile(DECIMAL, re.ASCII)
THING_LINE = re.compile(f"({MAY_STAND}+) ({MAY_STAND}+) {DECIMAL} {DECIMAL}", re.ASCII)


def model_line(line, clock, things):
    """What a line is found to be: its kind of fault (0 for none) and what it tells."""
    try:
        words = line.decode("utf-8")
    except UnicodeDecodeError:
        return 1, None
    if clock is None:
        found = FIRST_LINE.fullmatch(words)
        return (1, None) if not found else (2 if len(words) > 10 or int(words) > LAST_MOMENT else 0, words)
    found = THING_LINE.fullmatch(words)
    if not found:
        return 1, None
    reading, text, moment, often = found.groups()
    if len(reading) > 32 or len(text) > 32 or len(moment) > 10 or len(often) > 5:
        return 2, None
    if not 1 <= int(moment) <= clock or not 1 <= int(often) <= 65535:
        return 2, None
    if (reading, text) in things:
        return 3, None
    return (4, None) if len(things) == 64 else (0, ((reading, text), (int(moment), int(often))))


def model_read(octets):
    """The fault, or None, and the clock and things."""
    clock, things = None, {}
    lines = bytes(octets).split(b"\n")
    for number, line in enumerate(lines):
        if number == len(lines) - 1 and (line or number == 0):
            return [-2, number, 1], None
        if number == len(lines) - 1:
            return None, (clock, things)
        kind, told = model_line(line, clock, things)
        if kind:
            return [-2, number, kind], None
        if clock is None:
            clock = int(told)
        else:
            things[told[0]] = told[1]


def in_order(things):
    # Python orders texts by their characters' numbers.
    return sorted(things.items(), key=lambda item: (-item[1][0], item[0]))


class Model:
    def __init__(self):
        self.clock = 0
        self.things = {}

    def begin(self):
        self.__init__()
        return [0]

    def read(self, octets):
        refusal, told = model_read(octets)
        if refusal:
            return refusal
        self.clock, self.things = told
        return [len(self.things)]

    def write(self):
        lines = [f"{self.clock}\n"]
        for (reading, text), (moment, often) in in_order(self.things):
            lines.append(f"{reading} {text} {moment} {often}\n")
        return counted(list("".join(lines).encode("utf-8")))

    def count(self):
        return [len(self.things), self.clock]

    def get(self, i):
        if i >= len(self.things):
            return [-4]
        (reading, text), (moment, often) = in_order(self.things)[i]
        return [0, moment, often] + counted([ord(c) for c in reading]) + counted([ord(c) for c in text])

    def note(self, reading, text):
        if max(len(reading), len(text)) > 32:
            return [-1]
        for row in (reading, text):
            if not row or any(c >= 0x110000 or 0xD800 <= c <= 0xDFFF or c <= 0x20 or c == 0x7F for c in row):
                return [-3]
        if self.clock == LAST_MOMENT:
            return [-6]
        key = ("".join(map(chr, reading)), "".join(map(chr, text)))
        self.clock += 1
        often = min(65535, self.things.get(key, (0, 0))[1] + 1)
        self.things[key] = (self.clock, often)
        self.things = dict(in_order(self.things)[:64])
        return [often]


def draw_row(draw):
    if draw.random() < 0.04:
        return draw.choice([[], [0x20], [0x7F, 97], [97, 0xD800], [0x110000], [97] * 33, [LAST_MOMENT], [98] * 40])
    signs = [97, 97, 98, 98, 99, 0x21, 0xE9, 0x3042, 0xFFFF, 0x10000]
    return [draw.choice(signs) for number in range(draw.choice([1, 1, 2, 3]))]


def draw_lines(draw):
    clock = draw.choice([0, 1, 9, 50, 50, 255, 65536, 2147483648, LAST_MOMENT - 3, LAST_MOMENT - 3, LAST_MOMENT])
    lines = [str(clock)]
    for number in range(draw.choice([0, 1, 2, 5, 30, 60, 64, 70])):
        reading = "".join(draw.choice("abcd\u00e9\U0001f600") for sign in range(draw.choice([1, 2, 3])))
        text = "".join(draw.choice("ABCDEFGH") for sign in range(draw.choice([1, 2, 3])))
        moment = draw.choice([1, 2, clock, clock, draw.randint(1, clock + 1), draw.randint(1, clock + 1)])
        often = draw.choice([1, 1, 2, 3, 65534, 65535])
        lines.append(f"{reading} {text} {max(1, min(moment, clock + (draw.random() < 0.01)))} {often}")
    return lines


def draw_text(draw):
    octets = bytearray("".join(line + "\n" for line in draw_lines(draw)).encode("utf-8"))
    for number in range(draw.choice([0, 0, 0, 0, 1, 2])):
        place = draw.randrange(len(octets)) if octets else 0
        what = draw.choice([b"", b" ", b"0", b"\n", b"1", b"9999", b"\x7f", b"\xc3", b"\x80", b"\xed\xa0\x80", b"a"])
        octets[place:place + draw.choice([0, 1, 1, 1])] = what
    return list(octets)


def draw_call(draw, room):
    """The call, and what calls the model likewise."""
    name = draw.choice(["note"] * 12 + ["get"] * 4 + ["count", "write", "read", "read", "begin"])
    if name == "note":
        reading, text = draw_row(draw), draw_row(draw)
        return note(reading, text), lambda model: model.note(reading, text)
    if name == "get":
        i = draw.choice([0, 1, 2, 3, 40, 63, 64, LAST_MOMENT])
        return get(i), lambda model: model.get(i)
    octets = draw_text(draw)
    if name == "read" and len(octets) < room:
        return read(octets), lambda model: model.read(octets)
    if name == "begin" and draw.random() < 0.3:
        return BEGIN, Model.begin
    return (WRITE, Model.write) if name == "write" else (COUNT, Model.count)


class ModelTest(unittest.TestCase):
    def test_lists_of_calls(self):
        for seed in range(150):
            draw = random.Random(seed)
            calls, modelled, room = [], [], 28000
            for number in range(draw.choice([3, 40, 150])):
                call, likewise = draw_call(draw, room)
                room -= len(call)
                calls.append(call)
                modelled.append(likewise)
            model = Model()
            self.assertEqual(ask(*calls), [likewise(model) for likewise in modelled], f"seed {seed}")

    def test_texts(self):
        kinds = {}
        for seed in range(1500):
            octets = draw_text(random.Random(seed))
            model = Model()
            expected = [model.read(octets), model.write(), model.count()]
            self.assertEqual(ask(read(octets), WRITE, COUNT), expected, f"seed {seed}")
            kind = expected[0][2] if expected[0][0] == -2 else 0
            kinds[kind] = kinds.get(kind, 0) + 1
        # The draw is of use only as long as it brings all that a text can be.
        self.assertEqual(sorted(kinds), [0, 1, 2, 3, 4])
        self.assertGreater(min(kinds.values()), 20)


if __name__ == "__main__":
    unittest.main()
