"""Assertions from their texts, and the one form of an assertion's text."""

from heappieces.assertions import ANY, CELL, LIST, TREE, Assertion, Piece
from heappieces.reading import Reader
from heappieces.tokens import bytes_of, read_tokens

EMP = "emp"
MOST_CONDITIONS = 6
MOST_PIECES = 6


def read_assertion(text, names):
    reader = Reader(read_tokens(text), names)
    conditions = read_conditions(reader)
    pieces = read_pieces(reader)
    reader.want_end()
    return Assertion(conditions, pieces)


def read_conditions(reader):
    conditions = []
    if reader.here().text in (EMP, CELL, LIST, TREE):
        return conditions
    sign = "and"
    while sign == "and":
        reader.want_room(conditions, MOST_CONDITIONS)
        conditions.append(reader.want_condition())
        sign = reader.want(("and", ":"))
    return conditions


def read_pieces(reader):
    if reader.sees(EMP):
        reader.want((EMP,))
        return []
    pieces = [read_piece(reader)]
    while reader.sees("*"):
        reader.want(("*",))
        reader.want_room(pieces, MOST_PIECES)
        pieces.append(read_piece(reader))
    return pieces


def read_piece(reader):
    kind = reader.want((CELL, LIST, TREE))
    if kind == CELL:
        return read_cell(reader)
    reader.want(("(",))
    told = [reader.want_value()]
    if kind == LIST:
        reader.want((",",))
        told.append(reader.want_value())
    reader.want((")",))
    return Piece(kind, told)


def read_cell(reader):
    told = [reader.want_value()]
    reader.want(("->",))
    told.append(want_field(reader))
    reader.want((",",))
    told.append(want_field(reader))
    return Piece(CELL, told)


def want_field(reader):
    if reader.sees(ANY):
        return reader.want((ANY,))
    return reader.want_value()


def assertion_form(assertion):
    plain = " and ".join([" ".join(condition) for condition in assertion.conditions])
    pieces = " * ".join([piece_form(piece) for piece in assertion.pieces])
    if plain != "":
        plain += " : "
    if pieces == "":
        pieces = EMP
    return bytes_of(plain + pieces)


def piece_form(piece):
    if piece.kind == CELL:
        return CELL + " " + piece.told[0] + " -> " + ", ".join(piece.told[1:])
    return piece.kind + "(" + ", ".join(piece.told) + ")"
