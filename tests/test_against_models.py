"""Many made-up texts and stores, against second tellings of the document in another way.

Programs are held as nested tuples and run by walking them; the first fault is told by a table of what
may stand behind what. Neither shares anything with the package.
"""

import random
import re
import unittest

from tests.helper import LOST, ON, RUN, TOUCHES, WRITTEN, after, ask, beside, last, load, put_in, renamed, swapped

NO_NAMES = "vars new free if else while next data emp cell list tree any and".split()
STEP_KINDS = ("set", "get", "put", "new", "free")


# Programs as nested tuples.

def any_value(chance, names):
    return chance.choice(names + ["0"])


def any_condition(chance, names):
    return any_value(chance, names), chance.choice(["==", "!="]), any_value(chance, names)


def any_block(chance, names, level, most):
    return [any_statement(chance, names, level) for _ in range(chance.randrange(most + 1))]


def any_statement(chance, names, level):
    kind = chance.choice(STEP_KINDS + (("if", "while") if level < 6 else ()))
    name, other, field = chance.choice(names), chance.choice(names), chance.choice(["next", "data"])
    if kind == "set":
        return "set", name, any_value(chance, names)
    if kind == "get":
        return "get", name, other, field
    if kind == "put":
        return "put", name, field, any_value(chance, names)
    if kind in ("new", "free"):
        return kind, name
    first = any_block(chance, names, level + 1, 3)
    if kind == "while":
        return kind, any_condition(chance, names), first
    second = any_block(chance, names, level + 1, 3) if chance.random() < 0.6 else []
    return kind, any_condition(chance, names), first, second


def form_of(statements, ahead=""):
    for kind, *rest in statements:
        if kind == "set":
            yield f"{ahead}{rest[0]} = {rest[1]};\n"
        elif kind == "get":
            yield f"{ahead}{rest[0]} = {rest[1]}.{rest[2]};\n"
        elif kind == "put":
            yield f"{ahead}{rest[0]}.{rest[1]} = {rest[2]};\n"
        elif kind == "new":
            yield f"{ahead}{rest[0]} = new;\n"
        elif kind == "free":
            yield f"{ahead}free {rest[0]};\n"
        else:
            yield f"{ahead}{kind} {' '.join(rest[0])} {{\n"
            yield from form_of(rest[1], ahead + "  ")
            if kind == "if" and rest[2]:
                yield ahead + "} else {\n"
                yield from form_of(rest[2], ahead + "  ")
            yield ahead + "}\n"


def untidy(chance, text):
    """The same tokens, otherwise parted."""
    parted = []
    for token in re.findall(r"[a-z0-9_]+|==|!=|.", text.replace("\n", " ")):
        if token == " ":
            continue
        wordlike = token[0].isalnum() and parted and parted[-1][-1].isalnum()
        gaps = [" ", "\t", "\n", "\r\n", "  ", "#x = 1\n", " # ?\n"] + ([] if wordlike else [""] * 8)
        parted.append(chance.choice(gaps) + token)
    return "".join(parted) + chance.choice(["", "\n", " ", "# the end"])


# Runs by walking the nested tuples.

class Stop(Exception):
    pass


class Walk:

    def __init__(self, numbers, cells, most):
        self.numbers, self.cells, self.most = dict(numbers), {a: list(c) for a, c in cells.items()}, most
        self.steps, self.touched, self.end = 0, [], [0]

    def begin_step(self):
        if self.steps == self.most:
            self.end = [2]
            raise Stop
        self.steps += 1

    def wrong(self, kind, address):
        self.steps -= 1
        self.end = [1, kind, address]
        raise Stop

    def cell(self, how, address):
        self.touched += [how, address]
        if address not in self.cells:
            self.wrong(how + 1, address)
        return self.cells[address]

    def value(self, told):
        return self.numbers.get(told, 0)

    def holds(self, condition):
        self.begin_step()
        first, sign, second = condition
        return (self.value(first) == self.value(second)) is (sign == "==")

    def walk(self, statements):
        for statement in statements:
            if statement[0] == "if":
                self.walk(statement[2] if self.holds(statement[1]) else statement[3])
            elif statement[0] == "while":
                while self.holds(statement[1]):
                    self.walk(statement[2])
            else:
                self.begin_step()
                self.do(*statement)

    def do(self, kind, name, *rest):
        if kind == "set":
            self.numbers[name] = self.value(rest[0])
        elif kind == "get":
            self.numbers[name] = self.cell(0, self.numbers[rest[0]])[rest[1] == "data"]
        elif kind == "put":
            self.cell(1, self.numbers[name])[rest[0] == "data"] = self.value(rest[1])
        elif kind == "free":
            self.cell(2, self.numbers[name])
            del self.cells[self.numbers[name]]
        else:
            room = [address for address in range(1, 13) if address not in self.cells]
            if not room:
                self.wrong(4, 0)
            self.touched += [3, room[0]]
            self.cells[room[0]] = [0, 0]
            self.numbers[name] = room[0]

    def store(self):
        told = [*self.numbers.values(), len(self.cells)]
        for address in sorted(self.cells):
            told += [address, *self.cells[address]]
        return told


def walked(statements, numbers, cells, most):
    walk = Walk(numbers, cells, most)
    try:
        walk.walk(statements)
    except Stop:
        pass
    return walk


def lost_of(numbers, cells):
    reached = {number for number in numbers.values() if number in cells}
    for _ in range(12):
        reached |= {number for address in reached for number in cells[address] if number in cells}
    return [address for address in sorted(cells) if address not in reached]


# Two runs compared, each told by its end, its steps, its numbers and its cells.

def told_run(walk):
    return walk.end, walk.steps, walk.numbers, walk.cells


def kept_by_run(statements, numbers, cells, more):
    end, steps, then, heap = told_run(walked(statements, numbers, cells, 300))
    if set(heap) & set(more):
        return [0]
    wanted = end, steps, then, {**heap, **{address: list(cell) for address, cell in more.items()}}
    return [int(told_run(walked(statements, numbers, {**cells, **more}, 300)) == wanted)]


def alike_for_row(statements, numbers, cells, row):
    to = {number: number for number in range(100)}
    to.update(zip(range(1, 13), row))

    def turned(numbers, cells):
        return ({name: to[number] for name, number in numbers.items()},
                {to[address]: [to[number] for number in cell] for address, cell in cells.items()})

    end, steps, then, heap = told_run(walked(statements, numbers, cells, 300))
    wanted = end[:2] + [to[address] for address in end[2:]], steps, *turned(then, heap)
    return [int(told_run(walked(statements, *turned(numbers, cells), 300)) == wanted)]


# The first fault, by a table: in a state, by what stands there, the state behind it.

E = ("name", "0")
TABLE = {
    "start": {"vars": "names"},
    "names": {"name": "named"},
    "named": {",": "names", ";": "stmt"},
    "stmt": {"name": "changed", "free": "freed", "if": "left", "while": "left"},
    "changed": {"=": "source", ".": "field"},
    "source": {"name": "sourced", "0": "last", "new": "last"},
    "sourced": {";": "stmt", ".": "read"},
    "read": {"next": "last", "data": "last"},
    "field": {"next": "fielded", "data": "fielded"},
    "fielded": {"=": "written"},
    "written": dict.fromkeys(E, "last"),
    "freed": {"name": "last"},
    "last": {";": "stmt"},
    "left": dict.fromkeys(E, "sign"),
    "sign": {"==": "right", "!=": "right"},
    "right": dict.fromkeys(E, "open"),
    "open": {"{": "stmt"},
}


def first_fault(text):
    """The kind and the place, or how many names there are."""
    tokens = re.compile(r"([\t\n\r ]|#[^\n]*)*(?:(?P<word>[a-z][a-z0-9_]*)|(?P<number>[0-9]+)"
                        r"|(?P<sign>==|!=|->|[()*,.:;={}])|(?P<end>\Z)|(?P<none>.))", re.S)
    state, names, blocks, keyword, at = "start", [], [], "", 0
    closed_if = False
    while True:
        match = tokens.match(text, at)
        kind = match.lastgroup
        token, place, at = match[kind], match.start(kind), match.end()
        if state == "names" and len(names) == 6:
            return 5, place
        if kind == "none":
            return 1, place
        if kind == "word" and len(token) > 12 or kind == "number" and token != "0":
            return 2, place
        if kind == "end":
            return len(names) if state == "stmt" and not blocks else (4, place)
        stands = "name" if kind == "word" and token not in NO_NAMES else token
        if state == "stmt" and token == "}" and blocks:
            closed_if = blocks.pop() == "if"
            continue
        if state == "stmt" and token == "else" and closed_if:
            state, keyword, closed_if = "open", "else", False
            continue
        if stands not in TABLE[state]:
            return 3, place
        closed_if = False
        if state == "stmt" and token in ("if", "while"):
            if len(blocks) == 6:
                return 5, place
            keyword = token
        if state == "open":
            blocks.append(keyword)
        if stands == "name":
            if state == "names":
                if token in names:
                    return 6, place
                names.append(token)
            elif token not in names:
                return 7, place
        state = TABLE[state][stands]


SCRAPS = NO_NAMES + list("abcdefg()*,.:;={}") + [
    "==", "!=", "->", "0", "00", "7", "!", "-", "?", "_", "A", "abcdefghijkl", "abcdefghijklm", "#", "# x\n", "\n",
    " ", "if a == 0 {", "while a != 0 {", "} else {", "}", "a = new;", "vars a;", ", b", "\xe9", "\x00"]


def spoiled(chance, text):
    for _ in range(chance.randrange(1, 4)):
        at = chance.randrange(len(text) + 1)
        cut = at + chance.choice([0, 0, 0, 1, 1, 2, 5])
        text = text[:at] + chance.choice(SCRAPS + [""] * 10) + text[cut:]
    return text[:chance.randrange(len(text) + 1)] if chance.random() < 0.3 else text


def any_program(chance):
    names = chance.sample(["a", "b", "c", "x1", "y_", "abcdefghijkl", "news"], chance.randrange(1, 7))
    return names, any_block(chance, names, 0, 6)


def any_store(chance, names):
    numbers = {name: chance.choice([0, 1, 2, 3, chance.randrange(100)]) for name in names}
    cells = {address: (chance.randrange(14), chance.choice([0, 1, 2, 99]))
             for address in sorted(chance.sample(range(1, 13), chance.choice([0, 2, 4, 8, 11, 12])))}
    return numbers, cells


def told_cells(cells):
    return [number for address in sorted(cells) for number in (address, *cells[address])]


def form_with_names(names, statements):
    return "vars " + ", ".join(names) + ";\n" + "".join(form_of(statements))


class Models(unittest.TestCase):

    def test_forms_and_runs(self):
        chance = random.Random(1)
        for _ in range(1500):
            names, statements = any_program(chance)
            form = form_with_names(names, statements)
            text = untidy(chance, form)
            if len(text) > 4096:
                continue
            numbers, cells = any_store(chance, names)
            most = chance.randrange(20)
            store = put_in(*numbers.values(), *told_cells(cells))
            got = ask(load(text), WRITTEN, store, RUN, after(most), TOUCHES, LOST, ON, ON)
            self.assertEqual(got[0], [0, len(names)], text)
            self.assertEqual(bytes(got[1][1:]).decode(), form)
            whole, part = walked(statements, numbers, cells, 300), walked(statements, numbers, cells, most)
            self.assertEqual(got[3], [0, *whole.end, whole.steps, *whole.store()], form)
            self.assertEqual(got[4], [0, *part.end, part.steps, *part.store()], form)
            self.assertEqual(got[5], [0, len(whole.touched) // 2, *whole.touched], form)
            lost = lost_of(numbers, cells)
            self.assertEqual(got[6], [0, len(lost), *lost])
            self.assertEqual(got[7], got[3])
            further = walked(statements, whole.numbers, whole.cells, 300)
            self.assertEqual(got[8], [0, *further.end, further.steps, *further.store()], form)

    def test_more_cells_and_other_addresses(self):
        chance = random.Random(4)
        found = []
        for _ in range(3000):
            names, statements = any_program(chance)
            numbers, cells = any_store(chance, names)
            free = [address for address in range(1, 13) if address not in cells]
            more = {address: (chance.randrange(14), chance.randrange(100))
                    for address in chance.sample(free, min(len(free), chance.choice([0, 1, 1, 2, 12])))}
            row = chance.choice([chance.sample(range(1, 13), 12), swapped(chance.sample(range(1, 13), 2)),
                                 swapped(chance.sample(range(1, 5), 2))])
            text = form_with_names(names, statements)
            got = ask(load(text), put_in(*numbers.values(), *told_cells(cells)), beside(*told_cells(more)), renamed(*row))
            wanted = [kept_by_run(statements, numbers, cells, more), alike_for_row(statements, numbers, cells, row)]
            self.assertEqual(got[2:], wanted, (text, numbers, cells, more, row))
            found.append(str(wanted))
        self.assertEqual(len(set(found)), 4)

    def test_first_faults(self):
        chance = random.Random(2)
        kinds = []
        for _ in range(6000):
            names, statements = any_program(chance)
            text = spoiled(chance, untidy(chance, form_with_names(names, statements)))[:4096]
            want = first_fault(text)
            kinds.append(want[0] if isinstance(want, tuple) else 0)
            got = last(load(text))
            self.assertEqual(got, [1, *want] if isinstance(want, tuple) else [0, want], text)
        self.assertEqual(set(kinds), {0, 1, 2, 3, 4, 5, 6, 7})

    def test_first_faults_of_scraps(self):
        chance = random.Random(3)
        for _ in range(6000):
            scraps = [chance.choice(SCRAPS) for _ in range(chance.randrange(12))]
            text = chance.choice(["", "vars a;", "vars a, b;", "vars a; " + "if a == 0 {" * 6]) + " ".join(scraps)
            want = first_fault(text)
            got = last(load(text))
            self.assertEqual(got, [1, *want] if isinstance(want, tuple) else [0, want], text)


if __name__ == "__main__":
    unittest.main()
