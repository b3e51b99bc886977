"""Texts, which are lists of bytes, read as tokens."""

from heappieces.faults import CANNOT_STAND, ENDS_EARLY, NO_TOKEN, NOT_AS_TOLD

SMALL_LETTERS = "abcdefghijklmnopqrstuvwxyz"
DIGITS = "0123456789"
WORD_SIGNS = "abcdefghijklmnopqrstuvwxyz0123456789_"
LONG_SIGNS = ("==", "!=", "->")
SHORT_SIGNS = ("(", ")", "*", ",", ".", ":", ";", "=", "{", "}")
LONGEST_WORD = 12

KNOWN = " \nabcdefghijklmnopqrstuvwxyz0123456789_()*,.:;=!->{}#"
# It stands for each byte that has no meaning outside of remarks, and begins no token itself.
UNKNOWN = "?"


class Token:

    # The fault is the kind to be told where this token is not what is wanted;
    # only a good token has a text, so the others are never what is wanted.
    def __init__(self, text, place, fault):
        self.text = text
        self.place = place
        self.fault = fault


def read_tokens(text):
    # Nothing behind a token with a fault of its own is ever looked at: such a one is the last.
    signs = signs_of(text)
    tokens = []
    at = past_blanks(signs, 0)
    while at < len(signs):
        token = token_at(signs, at)
        tokens.append(token)
        if token.fault != CANNOT_STAND:
            return tokens
        at = past_blanks(signs, at + len(token.text))
    tokens.append(Token("", len(signs), ENDS_EARLY))
    return tokens


def signs_of(text):
    known = {9: " ", 13: " "}
    for sign in KNOWN:
        known[ord(sign)] = sign
    return "".join([known.get(byte, UNKNOWN) for byte in text])


def bytes_of(signs):
    return [ord(sign) for sign in signs]


def past_blanks(signs, at):
    while at < len(signs) and signs[at] in " \n#":
        if signs[at] == "#":
            at = remark_end(signs, at)
        else:
            at += 1
    return at


def remark_end(signs, at):
    end = signs.find("\n", at)
    return len(signs) if end < 0 else end


def token_at(signs, at):
    sign = signs[at]
    if sign in SMALL_LETTERS:
        word = signs[at:past_members(signs, at, WORD_SIGNS)]
        return checked_token(word, at, len(word) <= LONGEST_WORD)
    if sign in DIGITS:
        number = signs[at:past_members(signs, at, DIGITS)]
        return checked_token(number, at, number == "0")
    if signs[at:at + 2] in LONG_SIGNS:
        return Token(signs[at:at + 2], at, CANNOT_STAND)
    if sign in SHORT_SIGNS:
        return Token(sign, at, CANNOT_STAND)
    return Token("", at, NO_TOKEN)


def past_members(signs, at, members):
    while at < len(signs) and signs[at] in members:
        at += 1
    return at


def checked_token(text, place, as_told):
    if as_told:
        return Token(text, place, CANNOT_STAND)
    return Token("", place, NOT_AS_TOLD)
