"""The calls on one object, and what they answer."""

from heappieces.assertions import conditions_that_hold, is_of, taking_of
from heappieces.assertiontexts import assertion_form, read_assertion
from heappieces.comparing import goes_alike, is_row, run_keeps
from heappieces.faults import TextFault
from heappieces.programs import Program
from heappieces.programtexts import program_form, read_program
from heappieces.runs import MOST_STEPS, run_of
from heappieces.stores import cells_told, has_some_of, heap_answer, lost_addresses, store_answer, store_told

LOAD = 0
WRITTEN = 1
INPUT = 2
RUN = 3
AFTER = 4
TOUCHES = 5
LOST = 6
ON = 7
BESIDE = 8
RENAMED = 9
HOLDS = 10
FORM = 11
LEFT = 12

NOT_BYTES = -1
TOO_LONG = -2
NOT_OF_ITS_FORM = -4
THERE_ALREADY = -5
NO_STORE = -6
NOT_SO_MANY_STEPS = -7
NO_ROW = -12

LONGEST_TEXT = 4096


class UnknownCall(ValueError):
    pass


class ToldAssertion:

    # Where there is a refusal, it is the whole answer, and there is no assertion.
    def __init__(self, assertion, refusal):
        self.assertion = assertion
        self.refusal = refusal


class Heaps:

    def __init__(self):
        self.program = Program([], [])
        self.store = None

    def load(self, text):
        refusal = text_refusal(text)
        if refusal != []:
            return refusal
        try:
            program = read_program(text)
        except TextFault as fault:
            return [1, fault.kind, fault.place]
        self.program = program
        self.store = None
        return [0, len(program.names)]

    def written(self):
        return [0] + program_form(self.program)

    def put_in(self, numbers):
        store = store_told(numbers, self.program.names)
        if store is None:
            return [NOT_OF_ITS_FORM]
        self.store = store
        return [0]

    def run(self):
        return self.after(MOST_STEPS)

    def after(self, most):
        if self.store is None:
            return [NO_STORE]
        if most < 0 or most > MOST_STEPS:
            return [NOT_SO_MANY_STEPS]
        return run_answer(run_of(self.program, self.store, most), self.program.names)

    def touches(self):
        if self.store is None:
            return [NO_STORE]
        run = run_of(self.program, self.store, MOST_STEPS)
        return [0, len(run.touched) // 2] + run.touched

    def lost(self):
        if self.store is None:
            return [NO_STORE]
        lost = lost_addresses(self.store)
        return [0, len(lost)] + lost

    def on(self):
        if self.store is None:
            return [NO_STORE]
        run = run_of(self.program, self.store, MOST_STEPS)
        self.store = run.store
        return run_answer(run, self.program.names)

    def beside(self, told):
        if self.store is None:
            return [NO_STORE]
        cells = cells_told(told)
        if cells is None:
            return [NOT_OF_ITS_FORM]
        if has_some_of(self.store, cells):
            return [THERE_ALREADY]
        return [1 if run_keeps(self.program, self.store, cells) else 0]

    def renamed(self, row):
        if self.store is None:
            return [NO_STORE]
        if not is_row(row):
            return [NO_ROW]
        return [1 if goes_alike(self.program, self.store, row) else 0]

    def holds(self, text):
        if self.store is None:
            return [NO_STORE]
        told = told_assertion(text, self.program.names)
        if told.refusal != []:
            return told.refusal
        return [1 if is_of(self.store, told.assertion) else 0]

    def form(self, text):
        told = told_assertion(text, self.program.names)
        if told.refusal != []:
            return told.refusal
        return [0] + assertion_form(told.assertion)

    def left(self, text):
        if self.store is None:
            return [NO_STORE]
        told = told_assertion(text, self.program.names)
        if told.refusal != []:
            return told.refusal
        taking = taking_of(told.assertion, self.store)
        return [0, conditions_that_hold(told.assertion, self.store), taking.taken] + heap_answer(taking.cells)


class CallRow:

    def __init__(self, numbers):
        self.numbers = numbers
        self.at = 0

    def is_done(self):
        return self.at == len(self.numbers)

    def take(self):
        number = self.numbers[self.at]
        self.at += 1
        return number

    def take_list(self):
        count = self.take()
        taken = self.numbers[self.at:self.at + count]
        self.at += count
        return taken


def text_refusal(text):
    if not all([0 <= byte <= 255 for byte in text]):
        return [NOT_BYTES]
    if len(text) > LONGEST_TEXT:
        return [TOO_LONG]
    return []


def told_assertion(text, names):
    refusal = text_refusal(text)
    if refusal != []:
        return ToldAssertion(None, refusal)
    try:
        assertion = read_assertion(text, names)
    except TextFault as fault:
        return ToldAssertion(None, [3, fault.kind, fault.place])
    return ToldAssertion(assertion, [])


def run_answer(run, names):
    return [0] + run.end() + [run.steps] + store_answer(run.store, names)


def answer_of(heaps, row):
    call = row.take()
    if call == LOAD:
        return heaps.load(row.take_list())
    if call == WRITTEN:
        return heaps.written()
    if call == INPUT:
        return heaps.put_in(row.take_list())
    if call == RUN:
        return heaps.run()
    if call == AFTER:
        return heaps.after(row.take())
    if call == TOUCHES:
        return heaps.touches()
    if call == LOST:
        return heaps.lost()
    if call == ON:
        return heaps.on()
    if call == BESIDE:
        return heaps.beside(row.take_list())
    if call == RENAMED:
        return heaps.renamed(row.take_list())
    if call == HOLDS:
        return heaps.holds(row.take_list())
    if call == FORM:
        return heaps.form(row.take_list())
    if call == LEFT:
        return heaps.left(row.take_list())
    raise UnknownCall("no such call")


def answers(calls):
    heaps = Heaps()
    row = CallRow(calls)
    given = []
    while not row.is_done():
        answer = answer_of(heaps, row)
        given.append(len(answer))
        given.extend(answer)
    return given
