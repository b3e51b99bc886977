"""The first fault of a text: the kinds, by their numbers, and the error that carries one."""

NO_TOKEN = 1
NOT_AS_TOLD = 2
CANNOT_STAND = 3
ENDS_EARLY = 4
TOO_MANY = 5
NAMED_TWICE = 6
NOT_NAMED = 7


class TextFault(Exception):

    def __init__(self, kind, place):
        self.kind = kind
        self.place = place
