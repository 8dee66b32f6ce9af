"""What calls are refused with, and how long a text may be."""

OUT_OF_BOUNDS = -1
NO_SYSTEM = -2
NOT_FOUND = -4
CANT_BE = -5
TOO_LONG = -6
FAULTY = -7

MOST_BYTES = 16384
