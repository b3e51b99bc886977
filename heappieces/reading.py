"""What a text tells, read token by token; the first that can't be is raised as a fault."""

from heappieces.faults import ENDS_EARLY, NAMED_TWICE, NOT_NAMED, TOO_MANY, TextFault
from heappieces.tokens import SMALL_LETTERS

NO_NAMES = (
    "vars", "new", "free", "if", "else", "while", "next", "data",
    "emp", "cell", "list", "tree", "any", "and",
)


class Reader:

    def __init__(self, tokens, names):
        self.tokens = tokens
        self.names = names
        self.at = 0

    def here(self):
        return self.tokens[self.at]

    def sees(self, text):
        return self.here().text == text

    def want(self, choices):
        token = self.here()
        if token.text not in choices:
            raise TextFault(token.fault, token.place)
        self.at += 1
        return token.text

    def want_name(self):
        token = self.here()
        if not is_name(token.text):
            raise TextFault(token.fault, token.place)
        self.at += 1
        return token

    def want_new_name(self):
        token = self.want_name()
        if token.text in self.names:
            raise TextFault(NAMED_TWICE, token.place)
        return token.text

    def want_known_name(self):
        token = self.want_name()
        if token.text not in self.names:
            raise TextFault(NOT_NAMED, token.place)
        return token.text

    def want_value(self):
        if self.sees("0"):
            return self.want(("0",))
        return self.want_known_name()

    def want_condition(self):
        first = self.want_value()
        sign = self.want(("==", "!="))
        return (first, sign, self.want_value())

    # One more may be read where fewer than the most are taken; else whatever stands here is too many.
    def want_room(self, taken, most):
        if len(taken) == most:
            raise TextFault(TOO_MANY, self.here().place)

    def is_at_end(self):
        return self.here().fault == ENDS_EARLY

    def want_end(self):
        token = self.here()
        if not self.is_at_end():
            raise TextFault(token.fault, token.place)


def is_name(text):
    return text != "" and text[0] in SMALL_LETTERS and text not in NO_NAMES
