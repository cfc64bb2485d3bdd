"""The desk: calls come in on one object, one behind another, and are answered."""

from saykept.characters import may_be_row
from saykept.memory import LAST_MOMENT, LONGEST_ROW, Memory
from saykept.written import fill, text_of

LONGEST_TEXT = 65536


class Desk:
    """The object that is called, and the list of calls with the place reached in it."""

    def __init__(self, calls):
        self.memory = Memory()
        self.calls = calls
        self.place = 0

    def has_calls(self):
        return self.place < len(self.calls)

    def take_number(self):
        number = self.calls[self.place]
        self.place = self.place + 1
        return number

    def take_row(self):
        length = self.take_number()
        row = self.calls[self.place:self.place + length]
        self.place = self.place + length
        return row


def answer_begin(desk):
    desk.memory = Memory()
    return [0]


def answer_read(desk):
    octets = desk.take_row()
    if len(octets) > LONGEST_TEXT:
        return [-1]
    memory = Memory()
    fault = fill(memory, octets)
    if len(fault) > 0:
        return [-2] + fault
    desk.memory = memory
    return [len(memory.things)]


def answer_write(desk):
    return counted(text_of(desk.memory))


def answer_count(desk):
    return [len(desk.memory.things), desk.memory.clock]


def answer_get(desk):
    place = desk.take_number()
    things = desk.memory.things
    if place >= len(things):
        return [-4]
    thing = things[place]
    return [0, thing.moment, thing.often] + counted(thing.reading) + counted(thing.text)


def answer_note(desk):
    reading = desk.take_row()
    text = desk.take_row()
    if len(reading) > LONGEST_ROW or len(text) > LONGEST_ROW:
        return [-1]
    if not may_be_row(reading) or not may_be_row(text):
        return [-3]
    if desk.memory.clock == LAST_MOMENT:
        return [-6]
    return [desk.memory.note(reading, text)]


def counted(row):
    return [len(row)] + row


# By a call's number what answers it. It takes the call's arguments from the desk,
# all of them, refused or not: the next call stands behind them.
CALLS = {
    1: answer_begin,
    2: answer_read,
    3: answer_write,
    4: answer_count,
    5: answer_get,
    6: answer_note,
}


def answers(calls):
    """What the calls, made one behind another on a new object, are answered."""
    desk = Desk(calls)
    told = []
    while desk.has_calls():
        told.extend(counted(CALLS[desk.take_number()](desk)))
    return told
