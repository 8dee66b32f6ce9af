"""What a text that can't be read is refused with."""

NO_TOKEN = 1
CANT_STAND = 2
NAME_TAKEN = 3
NO_GLASS = 4
TOO_MANY = 5
BAD_NUMBER = 6


class Fault(Exception):
    """The first fault of a text: its number, and the place where it is told."""

    def __init__(self, fault, place):
        self.fault = fault
        self.place = place
