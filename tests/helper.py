"""What the tests share: calls as the interface has them, answers one by one, and drawn calls."""

from saykept.desk import answers

BEGIN = [1]
WRITE = [3]
COUNT = [4]

TOO_LONG = [-1]
MAY_NOT_STAND = [-3]
NONE_THERE = [-4]
NOT_REMEMBERED = [-5]
CLOCK_AT_END = [-6]

LAST_MOMENT = 4294967295

# What no reading and no text of a thing may hold, but is a character; and what's none.
STRANGERS = [0, 1, 9, 10, 0x1F, 0x20, 0x7F]
NO_CHARACTERS = [0xD800, 0xDBFF, 0xDC00, 0xDFFF, 0x110000, 0x7FFFFFFF, LAST_MOMENT]
# What may just stand there.
NEIGHBOURS = [0x21, 0x7E, 0x80, 0x9F, 0xA0, 0xAD, 0x7FF, 0x800, 0x3000, 0xD7FF, 0xE000, 0xFEFF, 0xFFFE, 0xFFFF,
              0x10000, 0x10FFFF]


def row(value):
    """A text's characters, or a list of numbers as it is."""
    return [ord(sign) for sign in value] if isinstance(value, str) else list(value)


def octets(value):
    return list(value.encode("utf-8")) if isinstance(value, str) else list(value)


def counted(numbers):
    return [len(numbers)] + numbers


def begin():
    return list(BEGIN)


def read(text):
    return [2] + counted(octets(text))


def write():
    return list(WRITE)


def count():
    return list(COUNT)


def get(i):
    return [5, i]


def note(reading, text):
    return [6] + counted(row(reading)) + counted(row(text))


def forget(reading, text):
    return [7] + counted(row(reading)) + counted(row(text))


def of(j, reading):
    return [8, j] + counted(row(reading))


def goes(j, reading):
    return [9, j] + counted(row(reading))


def cost(c, reading, text):
    return [10, c] + counted(row(reading)) + counted(row(text))


def join(text):
    return [11] + counted(octets(text))


# By a call's name what writes it as the interface has it.
CALLS = {
    "begin": begin, "read": read, "write": write, "count": count, "get": get, "note": note,
    "forget": forget, "of": of, "goes": goes, "cost": cost, "join": join,
}


def split(told):
    """The answers, each a list, out of the one list that they are given back in."""
    single = []
    place = 0
    while place < len(told):
        length = told[place]
        answer = told[place + 1:place + 1 + length]
        assert length > 0 and len(answer) == length, told
        single.append(answer)
        place += 1 + length
    return single


def ask(*calls):
    """The answers to the calls on one new object."""
    return split(answers([number for call in calls for number in call]))


def written(text):
    """What write answers where the memory's text is this."""
    return counted(octets(text))


def text_after(*calls):
    """The memory's text after the calls."""
    return bytes(ask(*calls, WRITE)[-1][1:]).decode("utf-8")


def fault(line, kind):
    return [-2, line, kind]


def full(moments):
    """A memory's text of things with these moments, how often 1 each, the clock 1000."""
    lines = [f"r{number:02} T {moment} 1\n" for number, moment in enumerate(moments)]
    return "1000\n" + "".join(lines)


# Drawn calls: from these rows, few enough that calls and memories often mean the same thing.
READINGS = ["a", "aa", "ab", "abc", "b", "ba", "c", "\u00e9", "\u00e9\uffff", "\U00010000"]
TEXTS = ["A", "AB", "B", "C", "D", "!", "\u00e9", "\u3042", "\uffff", "\U00010000"]
PAIRS = [(reading, text) for reading in READINGS for text in TEXTS]
WRONG_ROWS = [[], [0x20], [0x7F, 97], [97, 0xD800], [0x110000], [97] * 33, [LAST_MOMENT], [98] * 40]
CLOCKS = [0, 1, 9, 9, 9, 50, 50, 50, 255, 255, 65536, 65536, 2147483640, 2147483640, LAST_MOMENT - 3, LAST_MOMENT]


def draw_reading(draw):
    if draw.random() < 0.1:
        return draw.choice(WRONG_ROWS)
    return row(draw.choice(READINGS))


def draw_thing(draw):
    reading, text = (row(part) for part in draw.choice(PAIRS))
    if draw.random() < 0.03:
        reading = draw.choice(WRONG_ROWS)
    if draw.random() < 0.03:
        text = draw.choice(WRONG_ROWS)
    return reading, text


def draw_sound_text(draw):
    """A memory's text without a fault."""
    clock = draw.choice(CLOCKS)
    lines = [f"{clock}\n"]
    for reading, text in draw.sample(PAIRS, draw.choice([0, 1, 2, 5, 30, 60, 64]) if clock else 0):
        moment = draw.choice([1, min(2, clock), clock, clock, draw.randint(1, clock), draw.randint(1, clock)])
        often = draw.choice([1, 1, 2, 3, 65534, 65535])
        lines.append(f"{reading} {text} {moment} {often}\n")
    return "".join(lines)


def draw_text(draw):
    """A memory's text as bytes, with a fault or without."""
    lines = draw_sound_text(draw).splitlines(True)
    if draw.random() < 0.1:
        lines.insert(draw.randint(1, len(lines)), draw.choice(lines))
    if draw.random() < 0.1:
        lines += [f"more{number} T {1 if draw.random() < 0.95 else 0} 1\n" for number in range(64)]
    mangled = bytearray("".join(lines).encode("utf-8"))
    for number in range(draw.choice([0, 0, 0, 0, 1, 2])):
        place = draw.randrange(len(mangled)) if mangled else 0
        what = draw.choice([b"", b" ", b"0", b"\n", b"1", b"9999", b"\x7f", b"\xc3", b"\x80", b"\xed\xa0\x80", b"a"])
        mangled[place:place + draw.choice([0, 1, 1, 1])] = what
    return list(mangled)


def draw_call(draw):
    """A call's name and what's handed in with it."""
    name = draw.choice(["note"] * 10 + ["forget"] * 3 + ["of", "goes", "cost", "get"] * 2
                       + ["count", "write", "join", "join", "read", "begin"])
    if name == "begin" and draw.random() < 0.7:
        name = "count"
    if name in ("note", "forget"):
        return name, draw_thing(draw)
    if name == "cost":
        return name, (draw.choice([0, 1, 2, 3, 50, 65534, 65535, 65536, LAST_MOMENT]), *draw_thing(draw))
    if name in ("of", "goes"):
        return name, (draw.choice([0, 0, 1, 2, 5, 9, 64, LAST_MOMENT]), draw_reading(draw))
    if name == "get":
        return name, (draw.choice([0, 1, 2, 3, 40, 63, 64, LAST_MOMENT]),)
    return name, (draw_text(draw),) if name in ("read", "join") else ()


def draw_calls(draw, room=28000):
    """Drawn calls that have, written one behind another, no more numbers than there's room for."""
    drawn = []
    for number in range(draw.choice([3, 40, 150])):
        name, given = draw_call(draw)
        room -= len(CALLS[name](*given))
        if room < 0:
            break
        drawn.append((name, given))
    return drawn
