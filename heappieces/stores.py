"""Stores: a number for each name, and a heap of cells by their addresses."""

HIGHEST_ADDRESS = 12
HIGHEST_NUMBER = 99


class Store:

    # A cell is the pair of its next and its data.
    def __init__(self, numbers, cells):
        self.numbers = numbers
        self.cells = cells

    def value(self, told):
        return 0 if told == "0" else self.numbers[told]

    def is_so(self, first, sign, second):
        return (self.value(first) == self.value(second)) == (sign == "==")


def copy_of_store(store):
    return Store(dict(store.numbers), dict(store.cells))


def is_same_store(store, other):
    return store.numbers == other.numbers and store.cells == other.cells


def with_cells(store, cells):
    more = copy_of_store(store)
    more.cells.update(cells)
    return more


def has_some_of(store, addresses):
    return any([address in store.cells for address in addresses])


def store_told(told, names):
    if len(told) < len(names) or not all_in_range(told[:len(names)]):
        return None
    cells = cells_told(told[len(names):])
    if cells is None:
        return None
    numbers = {}
    for at in range(len(names)):
        numbers[names[at]] = told[at]
    return Store(numbers, cells)


def cells_told(told):
    if len(told) % 3 != 0:
        return None
    cells = {}
    last = 0
    for at in range(0, len(told), 3):
        address = told[at]
        fields = told[at + 1:at + 3]
        if address <= last or address > HIGHEST_ADDRESS or not all_in_range(fields):
            return None
        cells[address] = tuple(fields)
        last = address
    return cells


def all_in_range(numbers):
    return all([0 <= number <= HIGHEST_NUMBER for number in numbers])


def store_answer(store, names):
    return [store.numbers[name] for name in names] + heap_answer(store.cells)


def heap_answer(cells):
    answer = [len(cells)]
    for address in sorted(cells):
        answer.append(address)
        answer.extend(cells[address])
    return answer


def lost_addresses(store):
    reached = {}
    waiting = list(store.numbers.values())
    while waiting != []:
        number = waiting.pop()
        if number in store.cells and number not in reached:
            reached[number] = True
            waiting.extend(store.cells[number])
    return [address for address in sorted(store.cells) if address not in reached]
