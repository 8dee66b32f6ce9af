"""What the tests share: lists of calls, their answers, and a second reader and keeper of systems to compare with.

The second reader works in another way than the program: regular expressions for the tokens, derivatives
of the grammar for what can stand, all faults gathered and the least taken, Python's fractions for numbers.
The second keeper has rows of texts and fractions, and turns the world round, not the rows.
"""

import random
import re
from fractions import Fraction

from lensrows.systems import answers

WORDS = "after clear conic curve flat glass into mirror radius start stop surface".split()
KINDS = ("surface", "mirror", "stop")


def as_bytes(text):
    return list(text.encode("latin-1")) if isinstance(text, str) else list(text)


def read(text):
    row = as_bytes(text)
    return [0, len(row)] + row


def forget():
    return [1]


def printed():
    return [2]


def count():
    return [3]


def name(sort, i):
    return [4, sort, i]


def find(sort, text):
    row = as_bytes(text)
    return [5, sort, len(row)] + row


def look(i):
    return [6, i]


def index(g):
    return [7, g]


def thing(i):
    return [8, i]


def put(i, text):
    row = as_bytes(text)
    return [9, i, len(row)] + row


def drop(i):
    return [10, i]


def set_to(i, what, p, q):
    return [11, i, what, p, q]


def scale(p, q):
    return [12, p, q]


def reverse():
    return [13]


def told(*calls):
    """The answers to these calls, a list each."""
    row = answers([number for call in calls for number in call])
    cut = []
    while row:
        cut.append(row[1:1 + row[0]])
        row = row[1 + row[0]:]
    return cut


def told_bytes(text):
    """How bytes are answered."""
    row = as_bytes(text)
    return [0, len(row)] + row


def looks(text, *edits):
    """Everything that can be asked of the system that a text tells, behind these edits."""
    glasses, things = told(read(text), *edits, count())[-1][1:3]
    calls = [printed(), count()]
    calls += [name(0, i) for i in range(glasses)] + [name(1, i) for i in range(things)]
    calls += [index(g) for g in range(glasses)]
    calls += [look(i) for i in range(things)] + [thing(i) for i in range(things)]
    return told(read(text), *edits, *calls)[1 + len(edits):]


def form_behind(text, *edits):
    """What print answers behind these edits, as a text."""
    return bytes(told(read(text), *edits, printed())[-1][2:]).decode()


# The grammar, as expressions over kinds of tokens: None is what nothing matches, () the empty row.

def seq(*parts):
    whole = ()
    for part in reversed(parts):
        if part is None or whole is None:
            return None
        whole = part if whole == () else whole if part == () else ("seq", part, whole)
    return whole


def alt(*parts):
    kept = []
    for part in parts:
        if part is not None and part not in kept:
            kept.append(part)
    return None if not kept else kept[0] if len(kept) == 1 else ("alt", tuple(kept))


def many(part):
    return ("many", part)


def maybe(part):
    return alt(part, ())


NUMBER = alt(seq("whole", maybe(seq("/", "whole"))), "pointed")
VALUE = seq(maybe("-"), NUMBER)
SHAPE = seq(alt("flat", seq("curve", VALUE), seq("radius", VALUE)), maybe(seq("conic", VALUE)))
CLEAR = maybe(seq("clear", NUMBER))
GLASS = seq("glass", "name", ":", NUMBER, ",", NUMBER, ",", NUMBER, ";")
ELEMENT = alt(
    seq("surface", "name", "after", NUMBER, "into", "name", SHAPE, CLEAR, ";"),
    seq("mirror", "name", "after", NUMBER, SHAPE, CLEAR, ";"),
    seq("stop", "name", "after", NUMBER, CLEAR, ";"))
SYSTEM = seq(GLASS, many(GLASS), "start", "name", ";", many(ELEMENT))


def may_be_empty(part):
    if part is None or isinstance(part, str):
        return False
    if part == () or part[0] == "many":
        return True
    if part[0] == "seq":
        return may_be_empty(part[1]) and may_be_empty(part[2])
    return any(may_be_empty(one) for one in part[1])


def behind(part, kind):
    """What may stand behind a token of that kind."""
    if part is None or part == ():
        return None
    if isinstance(part, str):
        return () if part == kind else None
    if part[0] == "many":
        return seq(behind(part[1], kind), part)
    if part[0] == "seq":
        first = seq(behind(part[1], kind), part[2])
        return alt(first, behind(part[2], kind)) if may_be_empty(part[1]) else first
    return alt(*[behind(one, kind) for one in part[1]])


BLANKS = re.compile(r"(?:[ \t\n\r]|#[^\n]*)*")
NAME = re.compile(r"[A-Za-z_][A-Za-z0-9_]*")
DIGITS = re.compile(r"[0-9]+(?:\.[0-9]+)?(?![A-Za-z0-9_.])")


def token_at(text, place):
    """Kind and text of the token at a place, None if none begins there."""
    found = NAME.match(text, place)
    if found:
        word = found.group()
        return None if len(word) > 32 else (word if word in WORDS else "name", word)
    found = DIGITS.match(text, place)
    if found:
        digits = found.group()
        if len(digits.replace(".", "")) > 18:
            return None
        return ("pointed" if "." in digits else "whole", digits)
    return (text[place], text[place]) if text[place] in ":,;/-" else None


def tokens_of(text):
    """Triples of place, kind, text, the last one the end or the first place where no token begins."""
    found = []
    place = BLANKS.match(text, 0).end()
    while place < len(text):
        token = token_at(text, place)
        if token is None:
            return found + [(place, "none", "")]
        found.append((place,) + token)
        place = BLANKS.match(text, place + len(token[1])).end()
    return found + [(len(text), "end", "")]


def standing(tokens):
    """How many tokens can stand, and the fault at the one behind them, if there's one."""
    left = SYSTEM
    for number, (place, kind, _) in enumerate(tokens):
        if kind == "none":
            return number, [(place, 1)]
        if kind == "end":
            return number, [] if may_be_empty(left) else [(place, 2)]
        left = behind(left, kind)
        if left is None:
            return number, [(place, 2)]
    raise AssertionError("no end")


def name_faults(tokens):
    glasses, things, faults = [], [], []
    for before, (place, kind, text) in zip(tokens, tokens[1:]):
        if kind == "name" and before[1] in ("start", "into"):
            faults += [(place, 4)] if text not in glasses else []
        elif kind == "name":
            named = glasses if before[1] == "glass" else things
            faults += [(place, 3)] if text in named else []
            named.append(text)
    return faults


def count_faults(tokens):
    glasses = [place for place, kind, _ in tokens if kind == "glass"]
    things = [place for place, kind, _ in tokens if kind in KINDS]
    return [(place, 5) for place in glasses[16:] + things[16:]]


def number_faults(tokens, last):
    """The faults 6 of the tokens ahead of the last one that's looked at, which may be where they're told."""
    faults = []
    for number in range(last):
        place, kind, text = tokens[number]
        if kind not in ("whole", "pointed"):
            continue
        if tokens[number - 1][1] == "/":
            faults += [(place, 6)] if kind == "whole" and int(text) == 0 else []
            continue
        value, end = Fraction(text), number + 1
        if kind == "whole" and tokens[end][1] == "/":
            if end + 1 >= last or tokens[end + 1][1] != "whole" or int(tokens[end + 1][2]) == 0:
                continue
            value, end = value / int(tokens[end + 1][2]), end + 2
        begin = number - 2 if tokens[number - 1][1] == "-" else number - 1
        word = tokens[begin][1]
        if (word in ":," and value < 1) or (word in ("radius", "clear") and value == 0):
            faults.append((tokens[end][0], 6))
    return faults


def first_fault(text):
    """The pair of fault and place, None if the text tells a system."""
    tokens = tokens_of(text)
    last, faults = standing(tokens)
    faults = faults + name_faults(tokens[:last]) + count_faults(tokens[:last]) + number_faults(tokens, last)
    return tuple(reversed(min(faults))) if faults else None


def number_in(words, key, absent=Fraction(0)):
    """The number behind a word in one element's or glass's tokens."""
    if key not in words:
        return absent
    begin = words.index(key) + 1
    end = begin
    while end < len(words) and re.match(r"[-/0-9]", words[end]):
        end += 1
    return Fraction("".join(words[begin:end]))


def said(value):
    sign = "- " if value < 0 else ""
    lower = "" if value.denominator == 1 else f" / {value.denominator}"
    return f"{sign}{abs(value.numerator)}{lower}"


def pair(value):
    return [value.numerator, value.denominator]


def rows_of(text):
    """The rows of words up to each ; in a text."""
    rows, row = [], []
    for _, _, word in tokens_of(text)[:-1]:
        row.append(word)
        if word == ";":
            rows.append(row)
            row = []
    return rows


def expected(text):
    """The print and the looks of a text that tells a system."""
    rows = rows_of(text)
    glasses = [row[1] for row in rows if row[0] == "glass"]
    form, seen = [], []
    for row in rows:
        if row[0] == "glass":
            indices = [Fraction(part) for part in "".join(row[3:-1]).split(",")]
            form.append(f"glass {row[1]} : {' , '.join(said(index) for index in indices)} ;\n")
        elif row[0] == "start":
            form.append(f"start {row[1]} ;\n")
        else:
            # A name may not be a word, so that each word stands once in a row.
            radius = number_in(row, "radius")
            curve = 1 / radius if radius else number_in(row, "curve")
            gap, conic, clear = number_in(row, "after"), number_in(row, "conic"), number_in(row, "clear")
            glass = row[row.index("into") + 1] if "into" in row else None
            line = f"{row[0]} {row[1]} after {said(gap)} " + (f"into {glass} " if glass else "")
            if row[0] != "stop":
                line += f"curve {said(curve)} " if curve else "flat "
            line += (f"conic {said(conic)} " if conic else "") + (f"clear {said(clear)} " if clear else "")
            form.append(line + ";\n")
            seen.append([0, KINDS.index(row[0]), glasses.index(glass) if glass else 0]
                        + pair(gap) + pair(curve) + pair(conic) + pair(clear))
    return "".join(form), seen


class Keeper:
    """Keeps one system, and answers the calls of numbers 2 and 6 to 13 from it."""

    def __init__(self, text):
        rows = rows_of(text)
        self.glasses = {row[1]: [Fraction(part) for part in "".join(row[3:-1]).split(",")]
                        for row in rows if row[0] == "glass"}
        self.start = [row[1] for row in rows if row[0] == "start"][0]
        self.things = [self.thing_in(row) for row in rows if row[0] in KINDS]

    @staticmethod
    def thing_in(row):
        radius = number_in(row, "radius")
        return {"kind": row[0], "name": row[1], "into": row[row.index("into") + 1] if "into" in row else None,
                "numbers": [number_in(row, "after"), 1 / radius if radius else number_in(row, "curve"),
                            number_in(row, "conic"), number_in(row, "clear")]}

    def text(self):
        lines = [f"glass {name}:{','.join(said(index) for index in indices)};" for name, indices in self.glasses.items()]
        lines.append(f"start {self.start};")
        for one in self.things:
            gap, curve, conic, clear = [said(number) for number in one["numbers"]]
            into = f"into {one['into']}" if one["into"] else ""
            shape = "" if one["kind"] == "stop" else f"curve {curve} conic {conic}"
            reach = f"clear {clear}" if clear != "0" else ""
            lines.append(f"{one['kind']} {one['name']} after {gap} {into} {shape} {reach};")
        return "\n".join(lines) + "\n"

    def form(self):
        return expected(self.text())[0]

    def world(self):
        """Of each thing its place and the signed indices before and behind it; then light's way behind all."""
        seen, z, way, medium = [], Fraction(0), 1, self.start
        for one in self.things:
            z += way * one["numbers"][0]
            before = (way, medium)
            way = -way if one["kind"] == "mirror" else way
            medium = one["into"] or medium
            seen.append((z, before, (way, medium)))
        return seen, (way, medium)

    def answer(self, call):
        """What's answered to a call that is a list of numbers."""
        verb = {2: self.do_print, 6: self.do_look, 7: self.do_index, 8: self.do_thing, 9: self.do_put, 10: self.do_drop,
                11: self.do_set, 12: self.do_scale, 13: self.do_reverse}[call[0]]
        return verb(*call[1:3], call[3:]) if call[0] == 9 else verb(*call[1:])

    def do_print(self):
        return told_bytes(self.form())

    def do_look(self, i):
        return expected(self.text())[1][i] if i < len(self.things) else [-1]

    def do_index(self, g):
        if g >= len(self.glasses):
            return [-1]
        return [0] + [part for value in list(self.glasses.values())[g] for part in pair(value)]

    def do_thing(self, i):
        if i >= len(self.things):
            return [-1]
        z, before, behind_it = self.world()[0][i]
        indices = [way * value for way, medium in (before, behind_it) for value in self.glasses[medium]]
        return [0, KINDS.index(self.things[i]["kind"])] + [part for value in [z] + indices for part in pair(value)]

    def do_put(self, i, length, row):
        if i > len(self.things) or length > 16384:
            return [-1]
        text = bytes(row).decode("latin-1")
        fault = put_fault(self.text(), text)
        if fault is not None:
            return [-7, *fault]
        self.things[i:i] = [self.thing_in(rows_of(text)[0])]
        return [0]

    def do_drop(self, i):
        if i >= len(self.things):
            return [-1]
        behind_it = self.things[i + 1:i + 2]
        total = sum(one["numbers"][0] for one in self.things[i:i + 2])
        if behind_it and is_long(total):
            return [-6]
        for one in behind_it:
            one["numbers"][0] = total
        self.things = self.things[:i] + self.things[i + 1:]
        return [0]

    def do_set(self, i, what, p, q):
        if i not in range(len(self.things)) or what not in range(4) or q == 0:
            return [-1]
        if (what in (0, 3) and p < 0) or (what in (1, 2) and p != 0 and self.things[i]["kind"] == "stop"):
            return [-5]
        if is_long(Fraction(p, q)):
            return [-6]
        self.things[i]["numbers"][what] = Fraction(p, q)
        return [0]

    def do_scale(self, p, q):
        if p <= 0 or q == 0:
            return [-1]
        times = Fraction(p, q)
        factors = (times, 1 / times, 1, times)
        scaled = [[number * factor for number, factor in zip(one["numbers"], factors)] for one in self.things]
        if any(is_long(number) for numbers in scaled for number in numbers):
            return [-6]
        for one, numbers in zip(self.things, scaled):
            one["numbers"] = numbers
        return [0]

    def do_reverse(self):
        seen, (way, medium) = self.world()
        self.start = medium
        at = seen[-1][0] if seen else Fraction(0)
        turned = []
        for one, (z, before, _) in reversed(list(zip(self.things, seen))):
            _, curve, conic, clear = one["numbers"]
            turned.append({"kind": one["kind"], "name": one["name"], "into": one["into"] and before[1],
                           "numbers": [abs(z - at), -way * curve, conic, clear]})
            at = z
        self.things = turned
        return [0]


def is_long(value):
    return max(abs(value.numerator), value.denominator) >= 10 ** 18


def put_fault(kept, text):
    """The first fault of a text that is put to the system that another text tells."""
    tokens = tokens_of(text)
    ends = [number for number, token in enumerate(tokens) if token[1] == ";"]
    over = tokens[ends[0] + 1] if ends else tokens[-1]
    whole = first_fault(kept + text)
    faults = [(whole[1] - len(kept), whole[0])] if whole else []
    if not ends or over[1] not in ("end", "none"):
        faults.append((over[0], 2))
    return tuple(reversed(min(faults))) if faults else None


class Maker:
    """Makes texts, the same ones for the same seed."""

    def __init__(self, seed):
        self.chance = random.Random(seed)

    def pick(self, *choices):
        return self.chance.choice(choices)

    def digits(self, most=18):
        length = self.pick(1, 1, 1, 2, 3, most)
        return "".join(self.chance.choice("0123456789") for _ in range(length))

    def whole_above(self, least=1):
        return str(self.chance.randrange(least, self.pick(3, 10, 100, 10 ** 18)))

    def number(self):
        return self.pick(
            lambda: [self.digits()],
            lambda: [self.digits(), "/", self.whole_above()],
            lambda: [self.digits(9) + "." + self.digits(9)])()

    def number_above_zero(self):
        return self.pick(
            lambda: [self.whole_above()],
            lambda: [self.whole_above(), "/", self.whole_above()],
            lambda: [self.digits(8) + "." + self.whole_above()[:9]])()

    def index(self):
        lower = self.chance.randrange(1, self.pick(3, 10, 10 ** 17))
        return self.pick(
            lambda: [self.whole_above()],
            lambda: [str(lower + self.chance.randrange(lower + 1)), "/", str(lower)],
            lambda: [self.whole_above()[:9] + "." + self.digits(9)])()

    def sign(self):
        return self.pick([], [], ["-"])

    def new_name(self, taken):
        signs = "abcXYZ_"
        while True:
            made = self.chance.choice(signs) + "".join(
                self.chance.choice(signs + "019") for _ in range(self.pick(0, 1, 2, 5, 31)))
            if made not in taken and made not in WORDS:
                taken.append(made)
                return made

    def shape(self):
        row = self.pick(
            lambda: ["flat"],
            lambda: ["curve"] + self.sign() + self.number(),
            lambda: ["radius"] + self.sign() + self.number_above_zero())()
        return row + self.pick([], ["conic"] + self.sign() + self.number())

    def thing_tokens(self, glasses, things):
        """An element's tokens; its name goes to the things' names."""
        kind = self.pick(*KINDS)
        row = [kind, self.new_name(things), "after"] + self.number()
        row += ["into", self.chance.choice(glasses)] if kind == "surface" else []
        row += [] if kind == "stop" else self.shape()
        return row + self.pick([], ["clear"] + self.number_above_zero()) + [";"]

    def tokens(self, most=16):
        glasses, things, row = [], [], []
        for _ in range(self.pick(1, 1, 2, 3, most)):
            row += ["glass", self.new_name(glasses), ":"]
            row += self.index() + [","] + self.index() + [","] + self.index() + [";"]
        row += ["start", self.chance.choice(glasses), ";"]
        for _ in range(self.pick(0, 1, 2, 4, most)):
            row += self.thing_tokens(glasses, things)
        return row

    def laid_out(self, tokens):
        """A text of these tokens, with all sorts of blanks between them, or none where none is needed."""
        text = self.pick("", " ", "# first\n")
        for token in tokens:
            if text and re.match(r"\w", token) and re.match(r"\w", text[-1]):
                text += self.pick(" ", "\n", "\t", "\r", "#\xe9 # ;\n", "  ")
            text += token + self.pick("", "", " ", " ", "\n")
        return text + self.pick("", "\n", "# end", "# end\n")

    def text(self):
        return self.laid_out(self.tokens())

    def put_text(self, keeper):
        """A text with one element for a keeper's system, or with a few faults."""
        names, glasses = [one["name"] for one in keeper.things], list(keeper.glasses)
        row = self.thing_tokens(self.pick(glasses, glasses, glasses, ["no_glass"]), list(names))
        if names and self.pick(True, False, False, False, False):
            row[1] = self.pick(*names)
        for _ in range(self.pick(0, 0, 0, 0, 1, 2)):
            at = self.chance.randrange(len(row))
            other = self.pick(*WORDS, "0", "0.0", "1.", "x", "/", "-", ";", "?", "a" * 33)
            zero = "0" if row[at][0].isdigit() else row[at]
            row[at:at + 1] = self.pick([], [row[at]] * 2, [other], [row[at], other], [zero], [zero], [zero])
        row += self.pick([], [], [], [], [], [], ["?"], [";"], ["x"], ["stop", "new", "after", "1", ";"])
        return self.laid_out(row)

    def upper(self):
        return self.pick(0, 1, 2, 3, 10, 10 ** 9, 10 ** 18 - 1, 10 ** 18, 2 ** 63 - 1, self.chance.randrange(2 ** 63))

    def short(self, many):
        """A number of one of so many, now and then of none."""
        return self.pick(0, many, many + 1, 4294967295, *[self.chance.randrange(max(1, many)) for _ in range(12)])

    def call(self, keeper):
        """One of the calls that a keeper answers."""
        many = len(keeper.things)
        return self.pick(
            printed,
            lambda: look(self.short(many)),
            lambda: index(self.short(len(keeper.glasses))),
            lambda: thing(self.short(many)),
            lambda: put(self.pick(self.short(many), many), self.put_text(keeper)),
            lambda: put(self.pick(self.short(many), many), self.put_text(keeper)),
            lambda: drop(self.short(many)),
            lambda: set_to(self.short(many), self.pick(0, 1, 2, 3, 3, self.short(4)),
                           self.pick(1, 1, -1) * self.upper(), self.upper()),
            lambda: scale(self.pick(1, 1, 1, 1, -1) * self.upper(), self.upper()),
            lambda: scale(self.pick(1, 2, 3, 10, 1000), self.pick(1, 2, 5, 10, 1000)),
            reverse)()

    def akin(self, token, row):
        """Another token that can stand where this one does, though it may be told another fault."""
        if token[0].isdigit():
            return self.pick("0", "00", "0.0", "0.5", "1")
        if re.match(r"[A-Za-z_]", token) and token not in WORDS:
            return self.pick(*[one for one in row if re.match(r"[A-Za-z_]", one) and one not in WORDS])
        return token

    def wrong_tokens(self):
        """Tokens of which a few have been lost, doubled, swapped or changed."""
        row = self.tokens(self.pick(16, 16, 16, 17))
        for _ in range(self.pick(0, 1, 1, 2, 3)):
            at = self.chance.randrange(len(row))
            any_other = self.pick(*WORDS, *row, "0", "0.0", "1.", "0.5", "x", "/", "-", ";", "?", "a" * 33, "1" * 19)
            row[at:at + 1] = self.pick([], [row[at]] * 2, row[at:at + 2][::-1], [any_other],
                                       [self.akin(row[at], row)], [self.akin(row[at], row)])
        return row

    def wrong_text(self):
        """A text of which a few bytes have been lost, put in or changed, or of which the rest is lost."""
        text = self.laid_out(self.wrong_tokens()) if self.pick(True, False) else self.text()
        for _ in range(self.pick(0, 1, 1, 2)):
            at = self.chance.randrange(len(text) + 1)
            sign = self.pick("0", "1", "a", "_", ".", " ", "#", "\n", ";", "/", "-", ",", "\xff", "\0", "glass ")
            rest = self.pick(text[at:], text[at + 1:], text[at + 1:])
            text = text[:at] + self.pick("", sign, sign) + self.pick(rest, rest, rest, "")
        return text
