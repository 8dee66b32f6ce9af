"""The grammar: a text is gone through once, token by token, and its first fault ends that."""

from lensrows.faults import BAD_NUMBER, CANT_STAND, Fault, NAME_TAKEN, NO_GLASS, TOO_MANY
from lensrows.model import Element, Glass, KIND_WORDS, MOST_GLASSES, MOST_THINGS, STOP, SURFACE, System
from lensrows.model import place_of_name
from lensrows.rationals import ZERO, inverse, negative, quotient
from lensrows.tokens import END, NAME, POINTED, WHOLE, token_from


class Reader:
    """Reads a text into a system, or an element for one.

    A token is drawn only when it is asked for: what's wrong with the ones before it has been told by then,
    so the first fault by place is the first that is met.
    """

    def __init__(self, text, system):
        self.text = text
        self.system = system
        self.place = 0
        self.token = None

    def ahead(self):
        """The token that stands next, which stays there."""
        if self.token is None:
            self.token = token_from(self.text, self.place)
        return self.token

    def ahead_among(self, kinds):
        """The token that stands next, which must be of one of these kinds."""
        token = self.ahead()
        if token.kind not in kinds:
            raise Fault(CANT_STAND, token.place)
        return token

    def take_among(self, kinds):
        token = self.ahead_among(kinds)
        self.token = None
        self.place = token.end
        return token

    def take(self, kind):
        return self.take_among((kind,))

    def take_new_name(self, named):
        """A name that none of these has."""
        token = self.take(NAME)
        if place_of_name(named, token.row) >= 0:
            raise Fault(NAME_TAKEN, token.place)
        return token.row

    def take_glass_number(self):
        """The number of the glass that is named."""
        token = self.take(NAME)
        glass = place_of_name(self.system.glasses, token.row)
        if glass < 0:
            raise Fault(NO_GLASS, token.place)
        return glass

    def take_number(self):
        upper = self.take_among((WHOLE, POINTED))
        if upper.kind == POINTED or self.ahead().kind != "/":
            return upper.value
        self.take("/")
        lower = self.take(WHOLE)
        if lower.value == ZERO:
            raise Fault(BAD_NUMBER, lower.place)
        return quotient(upper.value[0], lower.value[0])

    def take_value(self):
        if self.ahead().kind == "-":
            self.take("-")
            return negative(self.take_number())
        return self.take_number()

    def judge(self, stands, kinds):
        """Tells a number that can't stand at the token behind it, where a fault of a lesser number comes first."""
        token = self.ahead_among(kinds)
        if not stands:
            raise Fault(BAD_NUMBER, token.place)

    def read_glass(self):
        word = self.take("glass")
        if len(self.system.glasses) == MOST_GLASSES:
            raise Fault(TOO_MANY, word.place)
        name = self.take_new_name(self.system.glasses)
        self.take(":")
        indices = []
        for mark in (",", ",", ";"):
            value = self.take_number()
            self.judge(value[0] >= value[1], (mark,))
            self.take(mark)
            indices.append(value)
        self.system.glasses.append(Glass(name, indices))

    def read_glasses(self):
        self.read_glass()
        while self.ahead().kind == "glass":
            self.read_glass()

    def read_start(self):
        self.take("start")
        self.system.first = self.take_glass_number()
        self.take(";")

    def take_curve(self):
        word = self.take_among(("flat", "curve", "radius"))
        if word.kind == "flat":
            return ZERO
        value = self.take_value()
        if word.kind == "curve":
            return value
        self.judge(value != ZERO, ("conic", "clear", ";"))
        return inverse(value)

    def take_conic(self):
        if self.ahead().kind != "conic":
            return ZERO
        self.take("conic")
        return self.take_value()

    def take_reach(self):
        if self.ahead().kind != "clear":
            return ZERO
        self.take("clear")
        value = self.take_number()
        self.judge(value != ZERO, (";",))
        return value

    def take_thing(self):
        """An element that can stand behind the system's others; it isn't among them yet."""
        word = self.take_among(KIND_WORDS)
        if len(self.system.things) == MOST_THINGS:
            raise Fault(TOO_MANY, word.place)
        name = self.take_new_name(self.system.things)
        thing = Element(KIND_WORDS.index(word.kind), name)
        self.take("after")
        thing.gap = self.take_number()
        if thing.kind == SURFACE:
            self.take("into")
            thing.glass = self.take_glass_number()
        if thing.kind != STOP:
            thing.curve = self.take_curve()
            thing.conic = self.take_conic()
        thing.reach = self.take_reach()
        self.take(";")
        return thing

    def read_things(self):
        while self.ahead().kind != END:
            self.system.things.append(self.take_thing())


def system_of(text):
    """The system that a text tells; a Fault is raised if it tells none."""
    reader = Reader(text, System())
    reader.read_glasses()
    reader.read_start()
    reader.read_things()
    return reader.system


def thing_of(text, system):
    """The one element that a text tells behind a system's others; a Fault is raised if it doesn't tell one."""
    reader = Reader(text, system)
    thing = reader.take_thing()
    reader.take(END)
    return thing
