"""The tokens of a text, each the longest. A text is a list of bytes."""

from lensrows.faults import Fault, NO_TOKEN
from lensrows.rationals import ZERO, quotient

WORDS = (
    "after", "clear", "conic", "curve", "flat", "glass", "into",
    "mirror", "radius", "start", "stop", "surface",
)
MARKS = (":", ",", ";", "/", "-")
LONGEST_NAME = 32
MOST_DIGITS = 18

# The kinds of tokens that are neither words nor marks: those are their own kinds.
NAME = "name"
WHOLE = "whole"
POINTED = "pointed"
END = "end"

LINE_FEED = 10
BLANKS = (32, 9, 10, 13)
HASH = 35
POINT = 46
DIGIT_ZERO = 48
UNDERSCORE = 95
# What stands behind a text's end, so that it can be asked about like a byte.
NO_BYTE = -1


class Token:
    """A token: its kind, its first byte's place, the place behind it; a name's bytes; a number's value."""

    def __init__(self, kind, place, end, row, value):
        self.kind = kind
        self.place = place
        self.end = end
        self.row = row
        self.value = value


def spelled(text):
    """The bytes of a written text."""
    return [ord(sign) for sign in text]


def byte_at(text, place):
    return text[place] if place < len(text) else NO_BYTE


def is_digit(byte):
    return 48 <= byte <= 57


def begins_name(byte):
    return 65 <= byte <= 90 or 97 <= byte <= 122 or byte == UNDERSCORE


def continues_name(byte):
    return begins_name(byte) or is_digit(byte)


def comment_end(text, place):
    while place < len(text) and text[place] != LINE_FEED:
        place += 1
    return place


def blanks_end(text, place):
    while byte_at(text, place) in BLANKS or byte_at(text, place) == HASH:
        if text[place] == HASH:
            place = comment_end(text, place)
        else:
            place += 1
    return place


def name_end(text, place):
    while continues_name(byte_at(text, place)):
        place += 1
    return place


def digits_end(text, place):
    while is_digit(byte_at(text, place)):
        place += 1
    return place


def name_token(text, place):
    """The word or name that begins at place."""
    end = name_end(text, place)
    if end - place > LONGEST_NAME:
        raise Fault(NO_TOKEN, place)
    row = text[place:end]
    for word in WORDS:
        if spelled(word) == row:
            return Token(word, place, end, [], ZERO)
    return Token(NAME, place, end, row, ZERO)


def value_of_digits(row):
    """What digits, with a point among them or without, stand for."""
    upper = 0
    lower = 1
    behind_point = False
    for byte in row:
        if byte == POINT:
            behind_point = True
        else:
            upper = upper * 10 + byte - DIGIT_ZERO
            if behind_point:
                lower = lower * 10
    return quotient(upper, lower)


def number_token(text, place):
    """The number that begins at place. No shorter one is tried: a digit or a point would stand directly behind it."""
    kind = WHOLE
    end = digits_end(text, place)
    digits = end - place
    if byte_at(text, end) == POINT and is_digit(byte_at(text, end + 1)):
        kind = POINTED
        end = digits_end(text, end + 1)
        digits = end - place - 1
    behind = byte_at(text, end)
    if digits > MOST_DIGITS or continues_name(behind) or behind == POINT:
        raise Fault(NO_TOKEN, place)
    return Token(kind, place, end, [], value_of_digits(text[place:end]))


def mark_token(text, place):
    for mark in MARKS:
        if ord(mark) == text[place]:
            return Token(mark, place, place + 1, [], ZERO)
    raise Fault(NO_TOKEN, place)


def token_from(text, place):
    """The first token from place on, behind the blanks there; the end is told as a token too."""
    begin = blanks_end(text, place)
    if begin == len(text):
        return Token(END, begin, begin, [], ZERO)
    if begins_name(text[begin]):
        return name_token(text, begin)
    if is_digit(text[begin]):
        return number_token(text, begin)
    return mark_token(text, begin)
