"""The calls on one object, which keeps a system or none."""

from lensrows.edits import drop, put, scale, set_number, turn_round
from lensrows.faults import Fault
from lensrows.grammar import system_of
from lensrows.model import place_of_name
from lensrows.printing import one_form
from lensrows.refusals import FAULTY, MOST_BYTES, NOT_FOUND, NO_SYSTEM, OUT_OF_BOUNDS
from lensrows.world import indices_beside, place_of

READ = 0
FORGET = 1
PRINT = 2
COUNT = 3
NAME = 4
FIND = 5
LOOK = 6
INDEX = 7
THING = 8
PUT = 9
DROP = 10
SET = 11
SCALE = 12

# How many whole numbers each call has, by the call's number.
WHOLES = (0, 0, 0, 0, 2, 1, 1, 1, 1, 1, 1, 4, 2, 0)

GLASSES = 0
THINGS = 1


class Kept:
    """What's kept from one call to the next: a system, or None."""

    def __init__(self):
        self.system = None


class Calls:
    """The list of calls, gone through from its beginning; it is only read."""

    def __init__(self, numbers):
        self.numbers = numbers
        self.place = 0

    def at_end(self):
        return self.place == len(self.numbers)

    def next_number(self):
        self.place += 1
        return self.numbers[self.place - 1]

    def next_numbers(self, many):
        self.place += many
        return self.numbers[self.place - many:self.place]

    def next_row(self):
        return self.next_numbers(self.next_number())


def read(kept, text):
    if len(text) > MOST_BYTES:
        return [OUT_OF_BOUNDS]
    try:
        system = system_of(text)
    except Fault as e:
        return [FAULTY, e.fault, e.place]
    kept.system = system
    return [0, len(system.things)]


def forget(kept):
    kept.system = None
    return [0]


def bytes_told(row):
    return [0, len(row)] + row


def count(system):
    return [0, len(system.glasses), len(system.things), system.first]


def named_of_sort(system, sort):
    """The glasses or the things; None if there's no such sort."""
    if sort == GLASSES:
        return system.glasses
    if sort == THINGS:
        return system.things
    return None


def name_told(system, sort, number):
    named = named_of_sort(system, sort)
    if named is None or number >= len(named):
        return [OUT_OF_BOUNDS]
    return bytes_told(named[number].name)


def find(system, sort, name):
    named = named_of_sort(system, sort)
    if named is None:
        return [OUT_OF_BOUNDS]
    number = place_of_name(named, name)
    return [NOT_FOUND] if number < 0 else [0, number]


def fractions_told(values):
    told = []
    for value in values:
        told.extend(value)
    return told


def look(system, number):
    if number >= len(system.things):
        return [OUT_OF_BOUNDS]
    thing = system.things[number]
    return [0, thing.kind, thing.glass] + fractions_told((thing.gap, thing.curve, thing.conic, thing.reach))


def index_told(system, number):
    if number >= len(system.glasses):
        return [OUT_OF_BOUNDS]
    return [0] + fractions_told(system.glasses[number].indices)


def thing_told(system, number):
    if number >= len(system.things):
        return [OUT_OF_BOUNDS]
    place = place_of(system.things, number)
    return [0, system.things[number].kind] + fractions_told([place] + indices_beside(system, number))


def asked(system, call, wholes, row):
    """What is answered to a call that changes nothing."""
    if call == PRINT:
        return bytes_told(one_form(system))
    if call == COUNT:
        return count(system)
    if call == NAME:
        return name_told(system, wholes[0], wholes[1])
    if call == FIND:
        return find(system, wholes[0], row)
    if call == LOOK:
        return look(system, wholes[0])
    if call == INDEX:
        return index_told(system, wholes[0])
    return thing_told(system, wholes[0])


def edited(system, call, wholes, row):
    """What is answered to a call that changes the system."""
    if call == PUT:
        return put(system, wholes[0], row)
    if call == DROP:
        return drop(system, wholes[0])
    if call == SET:
        return set_number(system, wholes[0], wholes[1], wholes[2], wholes[3])
    if call == SCALE:
        return scale(system, wholes[0], wholes[1])
    return turn_round(system)


def has_row(call):
    return call in (READ, FIND, PUT)


def next_answer(kept, calls):
    """What is answered to the call that stands next."""
    call = calls.next_number()
    wholes = calls.next_numbers(WHOLES[call])
    row = calls.next_row() if has_row(call) else []
    if call == READ:
        return read(kept, row)
    if call == FORGET:
        return forget(kept)
    if kept.system is None:
        return [NO_SYSTEM]
    if call <= THING:
        return asked(kept.system, call, wholes, row)
    return edited(kept.system, call, wholes, row)


def answers(calls):
    """For each call, in order: how many numbers are answered, and these."""
    kept = Kept()
    left = Calls(calls)
    told = []
    while not left.at_end():
        answer = next_answer(kept, left)
        told.append(len(answer))
        told.extend(answer)
    return told
