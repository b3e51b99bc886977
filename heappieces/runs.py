"""Runs of programs, step by step."""

from heappieces.programs import ASSIGN, ELSE, END, FIELDS, IF, NEW, READ, WHILE, WRITE
from heappieces.stores import HIGHEST_ADDRESS, copy_of_store

MOST_STEPS = 300

OVER = 0
GONE_WRONG = 1
CUT_OFF = 2

# How an address is touched; what goes wrong then has the number behind it.
TOUCH_READ = 0
TOUCH_WRITE = 1
TOUCH_FREE = 2
TOUCH_NEW = 3


class Run:

    def __init__(self, program, store):
        self.lines = program.lines
        self.store = copy_of_store(store)
        self.at = 0
        self.steps = 0
        self.touched = []
        self.wrong = []

    def go(self, most):
        while self.at < len(self.lines) and self.steps < most and self.wrong == []:
            self.step()

    def end(self):
        if self.wrong != []:
            return list(self.wrong)
        return [CUT_OFF] if self.at < len(self.lines) else [OVER]

    def step(self):
        line = self.lines[self.at]
        self.at += 1
        if line.kind in (IF, WHILE):
            self.ask(line)
        else:
            self.change(line)
        if self.wrong == []:
            self.steps += 1
            self.pass_block_ends()

    # Going from a block's end to what comes then is no step, and nothing that is left to do.
    def pass_block_ends(self):
        while self.at < len(self.lines) and self.lines[self.at].kind in (ELSE, END):
            self.at = self.lines[self.at].target

    def ask(self, line):
        if not self.store.is_so(line.first, line.detail, line.second):
            self.at = line.target

    def change(self, line):
        if line.kind == ASSIGN:
            self.store.numbers[line.first] = self.store.value(line.second)
        elif line.kind == READ:
            self.read_field(line)
        elif line.kind == WRITE:
            self.write_field(line)
        elif line.kind == NEW:
            self.put_cell(line)
        else:
            self.free_cell(line)

    def read_field(self, line):
        address = self.store.value(line.second)
        if self.touch(TOUCH_READ, address):
            cell = self.store.cells[address]
            self.store.numbers[line.first] = cell[FIELDS.index(line.detail)]

    def write_field(self, line):
        address = self.store.value(line.first)
        if self.touch(TOUCH_WRITE, address):
            cell = list(self.store.cells[address])
            cell[FIELDS.index(line.detail)] = self.store.value(line.second)
            self.store.cells[address] = tuple(cell)

    def free_cell(self, line):
        address = self.store.value(line.first)
        if self.touch(TOUCH_FREE, address):
            self.store.cells.pop(address)

    def put_cell(self, line):
        address = 1
        while address in self.store.cells:
            address += 1
        if address > HIGHEST_ADDRESS:
            self.wrong = [GONE_WRONG, TOUCH_NEW + 1, 0]
        else:
            self.touched.extend([TOUCH_NEW, address])
            self.store.cells[address] = (0, 0)
            self.store.numbers[line.first] = address

    def touch(self, how, address):
        self.touched.extend([how, address])
        if address in self.store.cells:
            return True
        self.wrong = [GONE_WRONG, how + 1, address]
        return False


def run_of(program, store, most):
    run = Run(program, store)
    run.go(most)
    return run
