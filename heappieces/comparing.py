"""Whether more cells beside a store, or other addresses, make a difference to a run."""

from heappieces.runs import MOST_STEPS, run_of
from heappieces.stores import HIGHEST_ADDRESS, Store, has_some_of, is_same_store, with_cells


def run_keeps(program, store, cells):
    without = run_of(program, store, MOST_STEPS)
    # A cell of its own at one of these addresses is another one, even if the two are alike.
    if has_some_of(without.store, cells):
        return False
    run = run_of(program, with_cells(store, cells), MOST_STEPS)
    return is_such_run(run, without.end(), without.steps, with_cells(without.store, cells))


def is_row(row):
    return sorted(row) == list(range(1, HIGHEST_ADDRESS + 1))


def goes_alike(program, store, row):
    plain = run_of(program, store, MOST_STEPS)
    run = run_of(program, renamed_store(store, row), MOST_STEPS)
    return is_such_run(run, renamed_end(plain.end(), row), plain.steps, renamed_store(plain.store, row))


def is_such_run(run, end, steps, store):
    return run.end() == end and run.steps == steps and is_same_store(run.store, store)


def renamed_number(number, row):
    return row[number - 1] if 1 <= number <= HIGHEST_ADDRESS else number


def renamed_store(store, row):
    numbers = {}
    for name in store.numbers:
        numbers[name] = renamed_number(store.numbers[name], row)
    cells = {}
    for address in store.cells:
        fields = [renamed_number(number, row) for number in store.cells[address]]
        cells[renamed_number(address, row)] = tuple(fields)
    return Store(numbers, cells)


def renamed_end(end, row):
    # Only the end of a run that has gone wrong is longer, and has an address, behind how.
    if len(end) == 1:
        return end
    return [end[0], end[1], renamed_number(end[2], row)]
