"""The calls on one object, which keeps a system or none."""

from lensrows.faults import Fault
from lensrows.grammar import system_of
from lensrows.model import place_of_name
from lensrows.printing import one_form

READ = 0
FORGET = 1
PRINT = 2
COUNT = 3
NAME = 4
FIND = 5

# How many whole numbers each call has ahead of its row, and whether it has one, by the call's number.
WHOLES = (0, 0, 0, 0, 2, 1, 1)
WITH_ROW = (True, False, False, False, False, True, False)

GLASSES = 0
THINGS = 1

OUT_OF_BOUNDS = -1
NO_SYSTEM = -2
NOT_FOUND = -4
FAULTY = -7
MOST_BYTES = 16384


class Kept:
    """What's kept from one call to the next: a system, or None."""

    def __init__(self):
        self.system = None


class Calls:
    """The list of calls, gone through from its beginning; it is only read."""

    def __init__(self, numbers):
        self.numbers = numbers
        self.place = 0

    def at_end(self):
        return self.place == len(self.numbers)

    def next_number(self):
        self.place += 1
        return self.numbers[self.place - 1]

    def next_numbers(self, many):
        self.place += many
        return self.numbers[self.place - many:self.place]

    def next_row(self):
        return self.next_numbers(self.next_number())


def read(kept, text):
    if len(text) > MOST_BYTES:
        return [OUT_OF_BOUNDS]
    try:
        system = system_of(text)
    except Fault as e:
        return [FAULTY, e.fault, e.place]
    kept.system = system
    return [0, len(system.things)]


def forget(kept):
    kept.system = None
    return [0]


def bytes_told(row):
    return [0, len(row)] + row


def count(system):
    return [0, len(system.glasses), len(system.things), system.first]


def named_of_sort(system, sort):
    """The glasses or the things; None if there's no such sort."""
    if sort == GLASSES:
        return system.glasses
    if sort == THINGS:
        return system.things
    return None


def name_told(system, sort, number):
    named = named_of_sort(system, sort)
    if named is None or number >= len(named):
        return [OUT_OF_BOUNDS]
    return bytes_told(named[number].name)


def find(system, sort, name):
    named = named_of_sort(system, sort)
    if named is None:
        return [OUT_OF_BOUNDS]
    number = place_of_name(named, name)
    return [NOT_FOUND] if number < 0 else [0, number]


def look(system, number):
    if number >= len(system.things):
        return [OUT_OF_BOUNDS]
    thing = system.things[number]
    told = [0, thing.kind, thing.glass]
    for value in (thing.gap, thing.curve, thing.conic, thing.reach):
        told.extend(value)
    return told


def answer_from(system, call, wholes, row):
    """What is answered to a call that needs a system."""
    if call == PRINT:
        return bytes_told(one_form(system))
    if call == COUNT:
        return count(system)
    if call == NAME:
        return name_told(system, wholes[0], wholes[1])
    if call == FIND:
        return find(system, wholes[0], row)
    return look(system, wholes[0])


def next_answer(kept, calls):
    """What is answered to the call that stands next."""
    call = calls.next_number()
    wholes = calls.next_numbers(WHOLES[call])
    row = calls.next_row() if WITH_ROW[call] else []
    if call == READ:
        return read(kept, row)
    if call == FORGET:
        return forget(kept)
    if kept.system is None:
        return [NO_SYSTEM]
    return answer_from(kept.system, call, wholes, row)


def answers(calls):
    """For each call, in order: how many numbers are answered, and these."""
    kept = Kept()
    left = Calls(calls)
    told = []
    while not left.at_end():
        answer = next_answer(kept, left)
        told.append(len(answer))
        told.extend(answer)
    return told
