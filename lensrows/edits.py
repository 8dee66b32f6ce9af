"""The calls that change the system that's kept. What may be refused is worked out ahead of the first change."""

from lensrows.faults import Fault
from lensrows.grammar import thing_of
from lensrows.model import STOP, SURFACE
from lensrows.rationals import ZERO, inverse, is_too_long, negative, plus, quotient, times
from lensrows.refusals import CANT_BE, FAULTY, MOST_BYTES, OUT_OF_BOUNDS, TOO_LONG
from lensrows.world import FORWARD, media_of, ways_of

# The numbers of an element that can be set.
GAP = 0
CURVE = 1
CONIC = 2
CLEAR = 3


def put(system, number, text):
    if number > len(system.things) or len(text) > MOST_BYTES:
        return [OUT_OF_BOUNDS]
    try:
        thing = thing_of(text, system)
    except Fault as e:
        return [FAULTY, e.fault, e.place]
    system.things.insert(number, thing)
    return [0]


def drop(system, number):
    things = system.things
    if number >= len(things):
        return [OUT_OF_BOUNDS]
    if number + 1 < len(things):
        gap = plus(things[number].gap, things[number + 1].gap)
        if is_too_long(gap):
            return [TOO_LONG]
        things[number + 1].gap = gap
    things.pop(number)
    return [0]


def can_be(kind, what, value):
    """Whether a thing of this kind can have this number."""
    if what == GAP or what == CLEAR:
        return value[0] >= 0
    return kind != STOP or value == ZERO


def give(thing, what, value):
    if what == GAP:
        thing.gap = value
    elif what == CURVE:
        thing.curve = value
    elif what == CONIC:
        thing.conic = value
    else:
        thing.reach = value


def set_number(system, number, what, upper, lower):
    if number >= len(system.things) or what > CLEAR or lower == 0:
        return [OUT_OF_BOUNDS]
    thing = system.things[number]
    value = quotient(upper, lower)
    if not can_be(thing.kind, what, value):
        return [CANT_BE]
    if is_too_long(value):
        return [TOO_LONG]
    give(thing, what, value)
    return [0]


def scaled(thing, factor):
    """A thing's gap, curve and clear when all is this many times as large."""
    return (times(thing.gap, factor), times(thing.curve, inverse(factor)), times(thing.reach, factor))


def has_too_long(values):
    return any([is_too_long(value) for value in values])


def scale(system, upper, lower):
    if upper <= 0 or lower == 0:
        return [OUT_OF_BOUNDS]
    factor = quotient(upper, lower)
    rows = [scaled(thing, factor) for thing in system.things]
    if any([has_too_long(row) for row in rows]):
        return [TOO_LONG]
    for thing, row in zip(system.things, rows):
        thing.gap = row[0]
        thing.curve = row[1]
        thing.reach = row[2]
    return [0]


def turn_round(system):
    media = media_of(system)
    # Light that left toward greater z comes in from there now, so the axis is turned too, and with it each curve.
    turns_axis = ways_of(system.things)[-1] == FORWARD
    gaps = [thing.gap for thing in system.things[1:]] + [ZERO]
    for thing, gap, medium in zip(system.things, gaps, media):
        thing.gap = gap
        if thing.kind == SURFACE:
            thing.glass = medium
        if turns_axis:
            thing.curve = negative(thing.curve)
    system.things = list(reversed(system.things))
    system.first = media[-1]
    return [0]
