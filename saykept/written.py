"""A memory's text: how it is read, what its fault is, and how it is written."""

from saykept.characters import may_be_row, octets_of_row, row_of_octets
from saykept.memory import LAST_MOMENT, LONGEST_ROW, MOST_OFTEN, MOST_THINGS, Thing, in_order

BLANK = 0x20
LINE_FEED = 0x0A
DIGIT_0 = 0x30
DIGIT_9 = 0x39

# What a line may be: sound, or wrong in one of the kinds that the document counts.
SOUND = 0
NO_SUCH_LINE = 1
OUT_OF_BOUNDS = 2
THERE_BEFORE = 3
ONE_TOO_MANY = 4


def fill(memory, octets):
    """Puts into a new memory what the text tells. Gives back the fault, [line, kind], or [].

    If there is a fault, the memory is left half filled: it's to be thrown away.
    """
    lines = cut(octets, LINE_FEED)
    unended = lines.pop()
    for number, line in enumerate(lines):
        kind = take_line(memory, number, line)
        if kind != SOUND:
            return [number, kind]
    if len(unended) > 0 or len(lines) == 0:
        return [len(lines), NO_SUCH_LINE]
    memory.things = in_order(memory.things)
    return []


def cut(row, mark):
    """The parts of a row between its marks; one more than it has marks."""
    parts = []
    part = []
    for number in row:
        if number == mark:
            parts.append(part)
            part = []
        else:
            part.append(number)
    parts.append(part)
    return parts


def take_line(memory, number, line):
    row = row_of_octets(line)
    if row is None:
        return NO_SUCH_LINE
    if number == 0:
        return take_clock(memory, row)
    return take_thing(memory, cut(row, BLANK))


def take_clock(memory, row):
    if not is_decimal(row):
        return NO_SUCH_LINE
    clock = number_of(row)
    if clock > LAST_MOMENT:
        return OUT_OF_BOUNDS
    memory.clock = clock
    return SOUND


def take_thing(memory, parts):
    if not is_thing(parts):
        return NO_SUCH_LINE
    thing = Thing(parts[0], parts[1], number_of(parts[2]), number_of(parts[3]))
    if not is_within_bounds(thing, memory.clock):
        return OUT_OF_BOUNDS
    if memory.has(thing.reading, thing.text):
        return THERE_BEFORE
    if len(memory.things) == MOST_THINGS:
        return ONE_TOO_MANY
    memory.things.append(thing)
    return SOUND


def is_thing(parts):
    if len(parts) != 4:
        return False
    return may_be_row(parts[0]) and may_be_row(parts[1]) and is_decimal(parts[2]) and is_decimal(parts[3])


def is_within_bounds(thing, clock):
    if len(thing.reading) > LONGEST_ROW or len(thing.text) > LONGEST_ROW:
        return False
    return 1 <= thing.moment <= clock and 1 <= thing.often <= MOST_OFTEN


def is_decimal(row):
    if len(row) == 0:
        return False
    if row[0] == DIGIT_0:
        return len(row) == 1
    return all([DIGIT_0 <= character <= DIGIT_9 for character in row])


def number_of(row):
    """The number that the digits tell; of one above all bounds only that it is."""
    number = 0
    for character in row:
        # A text may have thousands of digits, and no bound needs them all.
        number = min(number * 10 + character - DIGIT_0, LAST_MOMENT + 1)
    return number


def text_of(memory):
    octets = digits_of(memory.clock) + [LINE_FEED]
    for thing in memory.things:
        octets.extend(line_of(thing))
    return octets


def line_of(thing):
    words = octets_of_row(thing.reading) + [BLANK] + octets_of_row(thing.text)
    numbers = digits_of(thing.moment) + [BLANK] + digits_of(thing.often)
    return words + [BLANK] + numbers + [LINE_FEED]


def digits_of(number):
    return [ord(digit) for digit in str(number)]
