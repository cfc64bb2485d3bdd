"""What the tests share: calls as the interface has them, and answers one by one."""

from saykept.desk import answers

BEGIN = [1]
WRITE = [3]
COUNT = [4]

TOO_LONG = [-1]
MAY_NOT_STAND = [-3]
NONE_THERE = [-4]
CLOCK_AT_END = [-6]

LAST_MOMENT = 4294967295


def row(value):
    """A text's characters, or a list of numbers as it is."""
    return [ord(sign) for sign in value] if isinstance(value, str) else list(value)


def octets(value):
    return list(value.encode("utf-8")) if isinstance(value, str) else list(value)


def counted(numbers):
    return [len(numbers)] + numbers


def read(text):
    return [2] + counted(octets(text))


def get(i):
    return [5, i]


def note(reading, text):
    return [6] + counted(row(reading)) + counted(row(text))


def split(told):
    """The answers, each a list, out of the one list that they are given back in."""
    single = []
    place = 0
    while place < len(told):
        length = told[place]
        answer = told[place + 1:place + 1 + length]
        assert length > 0 and len(answer) == length, told
        single.append(answer)
        place += 1 + length
    return single


def ask(*calls):
    """The answers to the calls on one new object."""
    return split(answers([number for call in calls for number in call]))


def written(text):
    """What write answers where the memory's text is this."""
    return counted(octets(text))


def text_after(*calls):
    """The memory's text after the calls."""
    return bytes(ask(*calls, WRITE)[-1][1:]).decode("utf-8")


def fault(line, kind):
    return [-2, line, kind]
