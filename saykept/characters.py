"""Characters: which there are, which may stand in a thing, and their bytes in UTF-8."""

# By how many octets a character has: the bits of it that the first octet holds,
# and the least character that needs so many. No character has none.
FIRST_BITS = (0, 0x7F, 0x1F, 0x0F, 0x07)
LEAST_CHARACTER = (0, 0, 0x80, 0x800, 0x10000)


def is_character(number):
    return number < 0xD800 or 0xE000 <= number < 0x110000


def may_stand(number):
    return number > 0x20 and number != 0x7F and is_character(number)


def may_be_row(row):
    """Whether the row could be a thing's reading or text, were it short enough."""
    return len(row) > 0 and all([may_stand(number) for number in row])


def octets_of(character):
    if character < 0x80:
        return [character]
    if character < 0x800:
        return [0xC0 | (character >> 6), last_octet(character)]
    if character < 0x10000:
        return [0xE0 | (character >> 12), last_octet(character >> 6), last_octet(character)]
    return [
        0xF0 | (character >> 18),
        last_octet(character >> 12),
        last_octet(character >> 6),
        last_octet(character),
    ]


def last_octet(bits):
    return 0x80 | (bits & 0x3F)


def octets_of_row(row):
    octets = []
    for character in row:
        octets.extend(octets_of(character))
    return octets


def row_of_octets(octets):
    """The characters that the octets are strict UTF-8 of; None if they are of none."""
    row = []
    place = 0
    while place < len(octets):
        length = length_by_first(octets[place])
        character = character_of(octets[place:place + length], length)
        if character is None:
            return None
        row.append(character)
        place = place + length
    return row


def length_by_first(octet):
    """How many octets a character has that begins with this one; 0 if none does."""
    if octet < 0x80:
        return 1
    if octet < 0xC0 or octet > 0xF7:
        return 0
    if octet < 0xE0:
        return 2
    if octet < 0xF0:
        return 3
    return 4


def character_of(octets, length):
    """The character that the octets, which should be so many, stand for; None if for none."""
    if length == 0 or len(octets) < length:
        return None
    number = octets[0] & FIRST_BITS[length]
    for octet in octets[1:]:
        if (octet & 0xC0) != 0x80:
            return None
        number = (number << 6) | (octet & 0x3F)
    if number < LEAST_CHARACTER[length] or not is_character(number):
        return None
    return number
