"""Assertions: their plain parts and pieces, and what pieces take away from a heap."""

from heappieces.programs import FIELDS

CELL = "cell"
LIST = "list"
TREE = "tree"
ANY = "any"


class Piece:

    # What is told of it, in the order of its text: names, "0", and "any" for a field.
    def __init__(self, kind, told):
        self.kind = kind
        self.told = told


class Assertion:

    # A condition is told as in an if: what stands to the left, the sign, what stands to the right.
    def __init__(self, conditions, pieces):
        self.conditions = conditions
        self.pieces = pieces


class Taking:

    # A piece that can't be taken away leaves the cells as they were before it: they are
    # never changed, but others come in their place. So the store's own may stand here first.
    def __init__(self, store, pieces):
        self.store = store
        self.pieces = pieces
        self.taken = 0
        self.cells = store.cells

    def go(self):
        while self.taken < len(self.pieces):
            cells = cells_without(self.pieces[self.taken], self.store, self.cells)
            if cells is None:
                return
            self.cells = cells
            self.taken += 1


def taking_of(assertion, store):
    taking = Taking(store, assertion.pieces)
    taking.go()
    return taking


def conditions_that_hold(assertion, store):
    count = 0
    for condition in assertion.conditions:
        if not store.is_so(condition[0], condition[1], condition[2]):
            return count
        count += 1
    return count


def is_of(store, assertion):
    taking = taking_of(assertion, store)
    all_hold = conditions_that_hold(assertion, store) == len(assertion.conditions)
    return all_hold and taking.taken == len(assertion.pieces) and taking.cells == {}


# The numbers of the store stay what they are, whatever is taken away; so the cells come beside it.
def cells_without(piece, store, cells):
    number = store.value(piece.told[0])
    if piece.kind == CELL:
        return cells_without_cell(cells, number, field_numbers(piece, store))
    if piece.kind == LIST:
        return cells_without_list(cells, number, store.value(piece.told[1]))
    return cells_without_tree(cells, number)


def field_numbers(piece, store):
    return [None if told == ANY else store.value(told) for told in piece.told[1:]]


def cells_without_cell(cells, number, wanted):
    if number not in cells:
        return None
    for at in range(len(FIELDS)):
        if wanted[at] is not None and wanted[at] != cells[number][at]:
            return None
    left = dict(cells)
    left.pop(number)
    return left


def cells_without_list(cells, number, last):
    left = dict(cells)
    while number != last:
        if number not in left:
            return None
        number = left.pop(number)[0]
    return left


def cells_without_tree(cells, number):
    left = dict(cells)
    waiting = [number]
    while waiting != []:
        root = waiting.pop()
        if root != 0:
            if root not in left:
                return None
            waiting.extend(left.pop(root))
    return left
