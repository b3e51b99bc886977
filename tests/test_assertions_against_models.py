"""Many made-up assertions and stores, against a second telling of the document in another way.

The first fault is told by a table of what may stand behind what; pieces are taken away by functions that call
themselves and mark what is taken. Nothing is shared with the package.
"""

import random
import re
import unittest

from tests.helper import ask, bytes_of, formed, holds, left, load, put_in

NAMES = ["a", "b", "c", "x_1"]
NO_NAMES = "vars new free if else while next data emp cell list tree any and".split()
PROGRAM = load("vars " + ", ".join(NAMES) + ";")


# Assertions as two lists of tuples.

def any_assertion(chance):
    def value():
        return chance.choice(NAMES + ["0"])

    def piece():
        kind = chance.choice(["cell", "list", "tree"])
        if kind == "cell":
            return kind, value(), *[chance.choice([value(), "any", "any"]) for _ in range(2)]
        return (kind, value(), value()) if kind == "list" else (kind, value())

    plain = [(value(), chance.choice(["==", "!="]), value()) for _ in range(chance.choice([0, 0, 1, 2, 6]))]
    return plain, [piece() for _ in range(chance.choice([0, 1, 2, 3, 6]))]


def written(plain, pieces):
    def form(kind, *told):
        return "cell {} -> {}, {}".format(*told) if kind == "cell" else kind + "(" + ", ".join(told) + ")"

    ahead = " and ".join(map(" ".join, plain)) + " : " if plain else ""
    return ahead + (" * ".join(form(*piece) for piece in pieces) or "emp")


# What is left, by marks.

class Stuck(Exception):
    pass


def taken_by(piece, number_of, cells, taken):
    """The addresses of what is taken away by this piece and by those before it."""
    def take(address):
        if address not in cells or address in taken:
            raise Stuck
        taken.add(address)
        return cells[address]

    def take_list(number, last):
        if number != last:
            take_list(take(number)[0], last)

    def take_tree(number):
        if number != 0:
            for field in take(number):
                take_tree(field)

    taken = set(taken)
    kind, *told = piece
    if kind == "cell":
        for field, wanted in zip(take(number_of(told[0])), told[1:]):
            if wanted != "any" and field != number_of(wanted):
                raise Stuck
    elif kind == "list":
        take_list(*map(number_of, told))
    else:
        take_tree(number_of(told[0]))
    return taken


def answers_of(plain, pieces, numbers, cells):
    def number_of(told):
        return numbers.get(told, 0)

    right = [(number_of(one) == number_of(other)) is (sign == "==") for one, sign, other in plain] + [False]
    taken, count = set(), 0
    for piece in pieces:
        try:
            taken = taken_by(piece, number_of, cells, taken)
        except Stuck:
            break
        count += 1
    rest = [number for address in sorted(set(cells) - taken) for number in (address, *cells[address])]
    held = right.index(False) == len(plain) and count == len(pieces) and not rest
    return [int(held)], [0, right.index(False), count, len(rest) // 3, *rest]


# The first fault, by a table: in a state, by what stands there, the state behind it.

PIECES = {"cell": "cell", "list": "list", "tree": "tree"}
TABLE = {
    "start": {"name": "sign", "0": "sign", "emp": "end", **PIECES},
    "plain": {"name": "sign", "0": "sign"},
    "sign": {"==": "right", "!=": "right"},
    "right": {"name": "held", "0": "held"},
    "held": {"and": "plain", ":": "told"},
    "told": {"emp": "end", **PIECES},
    "piece": PIECES,
    "cell": {"name": "arrow", "0": "arrow"},
    "arrow": {"->": "next"},
    "next": {"name": "comma", "0": "comma", "any": "comma"},
    "comma": {",": "data"},
    "data": {"name": "done", "0": "done", "any": "done"},
    "list": {"(": "from"},
    "from": {"name": "between", "0": "between"},
    "between": {",": "root"},
    "tree": {"(": "root"},
    "root": {"name": "close", "0": "close"},
    "close": {")": "done"},
    "done": {"*": "piece"},
    "end": {},
}


def first_fault(text):
    """The kind and the place, or None."""
    tokens = re.compile(r"([\t\n\r ]|#[^\n]*)*(?:(?P<word>[a-z][a-z0-9_]*)|(?P<number>[0-9]+)"
                        r"|(?P<sign>==|!=|->|[()*,.:;={}])|(?P<end>\Z)|(?P<none>.))", re.S)
    state, conditions, pieces, at = "start", 0, 0, 0
    while True:
        match = tokens.match(text, at)
        kind = match.lastgroup
        token, place, at = match[kind], match.start(kind), match.end()
        if state == "plain" and conditions == 6 or state == "piece" and pieces == 6:
            return 5, place
        if kind == "none":
            return 1, place
        if kind == "word" and len(token) > 12 or kind == "number" and token != "0":
            return 2, place
        if kind == "end":
            return None if state in ("done", "end") else (4, place)
        stands = "name" if kind == "word" and token not in NO_NAMES else token
        if stands not in TABLE[state]:
            return 3, place
        if stands == "name" and token not in NAMES:
            return 7, place
        state = TABLE[state][stands]
        conditions += state == "held"
        pieces += state == "done"


SCRAPS = NO_NAMES + NAMES + list("()*,.:;={}z") + [
    "==", "!=", "->", "0", "00", "7", "!", "-", "?", "_", "A", "abcdefghijkl", "abcdefghijklm", "#", "# x\n", "\n", " ",
    "a == 0 and ", "a != b : ", " : ", "emp", " * ", "cell a -> any, any", "list(a, b)", "tree(c) * ", "any, ", "\xe9", "\x00"]


def untidy(chance, text):
    """The same tokens, otherwise parted."""
    parted = []
    for token in re.findall(r"[a-z0-9_]+|==|!=|->|[^ ]", text):
        wordlike = token[0].isalnum() and parted and parted[-1][-1].isalnum()
        gaps = [" ", "\t", "\n", "\r\n", "  ", "#x = 1\n", " # ?\n"] + ([] if wordlike else [""] * 8)
        parted.append(chance.choice(gaps) + token)
    return "".join(parted) + chance.choice(["", "\n", " ", "# the end"])


def spoiled(chance, text):
    for _ in range(chance.randrange(1, 4)):
        at = chance.randrange(len(text) + 1)
        cut = at + chance.choice([0, 0, 0, 1, 1, 2, 5])
        text = text[:at] + chance.choice(SCRAPS + [""] * 10) + text[cut:]
    return text[:chance.randrange(len(text) + 1)] if chance.random() < 0.3 else text


def any_store(chance):
    """Few cells, close together, so that lists and trees come about."""
    most = chance.choice([0, 1, 2, 3, 3, 4, 5, 12])
    addresses = range(1, most + 1)
    number = [0, 0, 0, most + 1, 13, 99] + list(addresses) * 3
    numbers = {name: chance.choice(number) for name in NAMES}
    return numbers, {address: (chance.choice(number), chance.choice(number)) for address in addresses}


def covering(chance, cells):
    """A heap of lists and trees that are apart, and an assertion that may well be of it."""
    order = chance.sample(sorted(cells), len(cells))
    heap, number_of, pieces = {}, dict.fromkeys(NAMES, 0), []
    for name in NAMES:
        count = min(len(order), chance.randrange(4))
        part, order = order[:count], order[count:]
        number_of[name] = part[0] if part else 0
        kind = chance.choice(["list", "tree"])
        for at, address in enumerate(part):
            below = part[at + 1] if at + 1 < len(part) else 0
            heap[address] = (below, 0) if kind == "list" or chance.random() < 0.5 else (0, below)
        pieces.append((kind, name, "0") if kind == "list" else (kind, name))
    chance.shuffle(pieces)
    return number_of, heap, pieces


class Models(unittest.TestCase):

    def compare(self, text, plain, pieces, numbers, cells):
        store = put_in(*numbers.values(), *[number for address in sorted(cells) for number in (address, *cells[address])])
        got = ask(PROGRAM, store, holds(text), left(text), formed(text))
        wanted = answers_of(plain, pieces, numbers, cells)
        self.assertEqual(got[2:4], list(wanted), (text, numbers, cells))
        self.assertEqual(got[4], [0] + bytes_of(written(plain, pieces)))
        return wanted[0][0]

    def test_holds_left_form(self):
        chance = random.Random(5)
        for _ in range(6000):
            plain, pieces = any_assertion(chance)
            self.compare(untidy(chance, written(plain, pieces)), plain, pieces, *any_store(chance))

    def test_heaps_made_of_pieces(self):
        chance = random.Random(6)
        found = []
        for _ in range(3000):
            numbers, cells, pieces = covering(chance, any_store(chance)[1])
            plain = any_assertion(chance)[0]
            found.append(self.compare(written(plain, pieces), plain, pieces, numbers, cells))
        self.assertGreater(sum(found), 300)
        self.assertGreater(len(found) - sum(found), 300)

    def test_first_faults(self):
        chance = random.Random(7)
        kinds = []
        for _ in range(8000):
            text = spoiled(chance, untidy(chance, written(*any_assertion(chance))))
            kinds.append(self.compare_fault(text))
        self.assertEqual(set(kinds), {0, 1, 2, 3, 4, 5, 7})

    def test_first_faults_of_scraps(self):
        chance = random.Random(8)
        for _ in range(8000):
            ahead = chance.choice(["", "", "a == 0 : ", "tree(a)", "a == b and " * 5 + "a == b ", "tree(0) * " * 5])
            self.compare_fault(ahead + " ".join(chance.choice(SCRAPS) for _ in range(chance.randrange(10))))

    def compare_fault(self, text):
        fault = first_fault(text)
        got = ask(PROGRAM, put_in(0, 0, 0, 0), holds(text), left(text), formed(text))
        if fault is None:
            self.assertNotIn(3, [part[0] for part in got[2:]], text)
            return 0
        self.assertEqual(got[2:], [[3, *fault]] * 3, text)
        return fault[0]


if __name__ == "__main__":
    unittest.main()
