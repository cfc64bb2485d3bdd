"""The desk: calls come in on one object, one behind another, and are answered."""

from saykept.characters import is_character, may_be_row
from saykept.memory import LAST_MOMENT, LONGEST_ROW, Memory, cheaper
from saykept.written import fill, text_of

LONGEST_TEXT = 65536
GREATEST_COST = 65535


class Desk:
    """The object that is called, and the list of calls with the place reached in it."""

    def __init__(self, calls):
        self.memory = Memory()
        self.calls = calls
        self.place = 0

    def has_calls(self):
        return self.place < len(self.calls)

    def take_number(self):
        number = self.calls[self.place]
        self.place = self.place + 1
        return number

    def take_row(self):
        length = self.take_number()
        row = self.calls[self.place:self.place + length]
        self.place = self.place + length
        return row


def answer_begin(desk):
    desk.memory = Memory()
    return [0]


def answer_read(desk):
    told = Memory()
    refusal = fill_or_refuse(told, desk.take_row())
    if len(refusal) > 0:
        return refusal
    desk.memory = told
    return [len(told.things)]


def answer_write(desk):
    return counted(text_of(desk.memory))


def answer_count(desk):
    return [len(desk.memory.things), desk.memory.clock]


def answer_get(desk):
    place = desk.take_number()
    things = desk.memory.things
    if place >= len(things):
        return [-4]
    thing = things[place]
    return [0, thing.moment, thing.often] + counted(thing.reading) + counted(thing.text)


def answer_note(desk):
    reading = desk.take_row()
    text = desk.take_row()
    refusal = refusal_of_thing(reading, text)
    if len(refusal) > 0:
        return refusal
    if desk.memory.clock == LAST_MOMENT:
        return [-6]
    return [desk.memory.note(reading, text)]


def answer_forget(desk):
    reading = desk.take_row()
    text = desk.take_row()
    refusal = refusal_of_thing(reading, text)
    if len(refusal) > 0:
        return refusal
    if not desk.memory.has(reading, text):
        return [-5]
    desk.memory.forget(reading, text)
    return [0]


def answer_of(desk):
    j = desk.take_number()
    reading = desk.take_row()
    refusal = refusal_of_sought(reading)
    if len(refusal) > 0:
        return refusal
    return answer_place(desk.memory.places_of(reading), j)


def answer_goes(desk):
    j = desk.take_number()
    reading = desk.take_row()
    refusal = refusal_of_sought(reading)
    if len(refusal) > 0:
        return refusal
    return answer_place(desk.memory.places_beginning(reading), j)


def answer_place(places, j):
    if j >= len(places):
        return [-5]
    return [places[j]]


def answer_cost(desk):
    cost = desk.take_number()
    reading = desk.take_row()
    text = desk.take_row()
    if cost > GREATEST_COST:
        return [-1]
    refusal = refusal_of_thing(reading, text)
    if len(refusal) > 0:
        return refusal
    return [cheaper(cost, desk.memory.often_of(reading, text))]


def answer_join(desk):
    told = Memory()
    refusal = fill_or_refuse(told, desk.take_row())
    if len(refusal) > 0:
        return refusal
    desk.memory.put_together(told)
    return [len(desk.memory.things)]


def fill_or_refuse(memory, octets):
    """Puts into a new memory what the text tells. Gives back the refusal, [] if it's none."""
    if len(octets) > LONGEST_TEXT:
        return [-1]
    fault = fill(memory, octets)
    if len(fault) > 0:
        return [-2] + fault
    return []


def refusal_of_thing(reading, text):
    """What a call is refused with that names a thing by these rows; [] if they're no cause."""
    if len(reading) > LONGEST_ROW or len(text) > LONGEST_ROW:
        return [-1]
    if not may_be_row(reading) or not may_be_row(text):
        return [-3]
    return []


def refusal_of_sought(reading):
    """What a call is refused with that seeks things by this reading; [] if it's no cause.

    It may be empty, or have what may not stand in a thing: then it's only not found.
    """
    if len(reading) > LONGEST_ROW:
        return [-1]
    if not all([is_character(number) for number in reading]):
        return [-3]
    return []


def counted(row):
    return [len(row)] + row


# By a call's number what answers it. It takes the call's arguments from the desk,
# all of them, refused or not: the next call stands behind them.
CALLS = {
    1: answer_begin,
    2: answer_read,
    3: answer_write,
    4: answer_count,
    5: answer_get,
    6: answer_note,
    7: answer_forget,
    8: answer_of,
    9: answer_goes,
    10: answer_cost,
    11: answer_join,
}


def answers(calls):
    """What the calls, made one behind another on a new object, are answered."""
    desk = Desk(calls)
    told = []
    while desk.has_calls():
        told.extend(counted(CALLS[desk.take_number()](desk)))
    return told
