"""The world on the axis: where things are, between which media, and which way light goes there."""

from lensrows.model import MIRROR, SURFACE
from lensrows.rationals import ZERO, plus

FORWARD = 1


def media_of(system):
    """The numbers of the glasses that light is in before each thing, and behind the last."""
    media = [system.first]
    for thing in system.things:
        media.append(thing.glass if thing.kind == SURFACE else media[-1])
    return media


def ways_of(things):
    """1 where light goes toward greater z, -1 where it goes back: before each thing, and behind the last."""
    ways = [FORWARD]
    for thing in things:
        ways.append(-ways[-1] if thing.kind == MIRROR else ways[-1])
    return ways


def along(rational, way):
    """A length or an index with the sign of the way that light goes."""
    return (rational[0] * way, rational[1])


def place_of(things, number):
    """Where a thing stands. No text has this number, so it may be longer than theirs."""
    place = ZERO
    for thing, way in zip(things[:number + 1], ways_of(things)):
        place = plus(place, along(thing.gap, way))
    return place


def indices_beside(system, number):
    """The three indices before a thing, then the three behind it."""
    media = media_of(system)
    ways = ways_of(system.things)
    indices = []
    for side in (number, number + 1):
        glass = system.glasses[media[side]]
        indices.extend([along(index, ways[side]) for index in glass.indices])
    return indices
