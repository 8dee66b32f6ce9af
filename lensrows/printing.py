"""The one form that a system has as a text."""

from lensrows.model import KIND_WORDS, STOP, SURFACE
from lensrows.rationals import ZERO
from lensrows.tokens import LINE_FEED, spelled

BLANK = 32


class Form:
    """The bytes of the tokens that have been put down so far."""

    def __init__(self):
        self.row = []

    def put_name(self, name):
        self.row.extend(name)
        self.row.append(BLANK)

    def put(self, text):
        """Puts down a word, a mark or digits."""
        self.row.extend(spelled(text))
        self.row.append(LINE_FEED if text == ";" else BLANK)

    def put_rational(self, rational):
        if rational[0] < 0:
            self.put("-")
        self.put(str(abs(rational[0])))
        if rational[1] != 1:
            self.put("/")
            self.put(str(rational[1]))

    def put_glass(self, glass):
        self.put("glass")
        self.put_name(glass.name)
        for mark, value in zip((":", ",", ","), glass.indices):
            self.put(mark)
            self.put_rational(value)
        self.put(";")

    def put_unless_zero(self, word, value):
        if value != ZERO:
            self.put(word)
            self.put_rational(value)

    def put_shape(self, thing):
        if thing.curve == ZERO:
            self.put("flat")
        self.put_unless_zero("curve", thing.curve)
        self.put_unless_zero("conic", thing.conic)

    def put_thing(self, thing, glasses):
        self.put(KIND_WORDS[thing.kind])
        self.put_name(thing.name)
        self.put("after")
        self.put_rational(thing.gap)
        if thing.kind == SURFACE:
            self.put("into")
            self.put_name(glasses[thing.glass].name)
        if thing.kind != STOP:
            self.put_shape(thing)
        self.put_unless_zero("clear", thing.reach)
        self.put(";")


def one_form(system):
    """The bytes of a system's one form."""
    form = Form()
    for glass in system.glasses:
        form.put_glass(glass)
    form.put("start")
    form.put_name(system.glasses[system.first].name)
    form.put(";")
    for thing in system.things:
        form.put_thing(thing, system.glasses)
    return form.row
