"""What a system is made of."""

from lensrows.rationals import ZERO

MOST_GLASSES = 16
MOST_THINGS = 16

# The words of an element's kinds: the kind's number is the word's place here.
KIND_WORDS = ("surface", "mirror", "stop")
SURFACE = 0
MIRROR = 1
STOP = 2


class Glass:
    """A name, as a list of bytes, and the index for each of the three lines."""

    def __init__(self, name, indices):
        self.name = name
        self.indices = indices


class Element:
    """One thing on the axis, with the gap before it; it's flat and lets all through until told otherwise."""

    def __init__(self, kind, name):
        self.kind = kind
        self.name = name
        self.gap = ZERO
        # The number of the glass behind a surface; 0 of mirrors and stops, as they're told.
        self.glass = 0
        self.curve = ZERO
        self.conic = ZERO
        # How far from the axis light is let through; 0 can't be told by a text, so it stands for none.
        self.reach = ZERO


class System:
    """Glasses, the number of the glass that light comes in, and the things in the order in which it meets them."""

    def __init__(self):
        self.glasses = []
        self.first = 0
        self.things = []


def place_of_name(named, name):
    """The number of the one of that name among glasses or things; -1 if there's none."""
    for place, one in enumerate(named):
        if one.name == name:
            return place
    return -1
