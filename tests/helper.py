"""How the tests write calls, and how they part what answers gives back."""

from heappieces.heaps import answers

WRITTEN = [1]
RUN = [3]
TOUCHES = [5]
LOST = [6]
ON = [7]

FULL = [number for address in range(1, 13) for number in (address, 0, 0)]
FOR_EVER = "vars x; while x == x { }"
TURN_ROUND = "vars x, y, t; while x != 0 { t = x.next; x.next = y; y = x; x = t; }"


def bytes_of(text):
    return list(text.encode("latin-1"))


def with_list(call, numbers):
    return [call, len(numbers)] + list(numbers)


def load(text):
    return with_list(0, bytes_of(text) if isinstance(text, str) else text)


def put_in(*numbers):
    return with_list(2, numbers)


def after(most):
    return [4, most]


def beside(*cells):
    return with_list(8, cells)


def renamed(*row):
    return with_list(9, row)


def swapped(*pairs):
    """The row that exchanges the two addresses of each pair, and leaves the others."""
    row = list(range(1, 13))
    for one, other in pairs:
        row[one - 1], row[other - 1] = other, one
    return row


def of_assertion(call, text):
    return with_list(call, bytes_of(text) if isinstance(text, str) else text)


def holds(text):
    return of_assertion(10, text)


def formed(text):
    return of_assertion(11, text)


def left(text):
    return of_assertion(12, text)


def parted(given):
    parts = []
    at = 0
    while at < len(given):
        count = given[at]
        part = given[at + 1:at + 1 + count]
        assert count >= 1 and len(part) == count, given
        parts.append(part)
        at += 1 + count
    return parts


def ask(*calls):
    """The answers, one list for each call, of these calls on one new object."""
    row = [number for call in calls for number in call]
    parts = parted(answers(row))
    assert len(parts) == len(calls), (calls, parts)
    return parts


def last(*calls):
    return ask(*calls)[-1]


def form(text):
    """The one form of a program, as text; the program must be without fault."""
    loaded, written = ask(load(text), WRITTEN)
    assert loaded[0] == 0, loaded
    assert written[0] == 0, written
    return bytes(written[1:]).decode("latin-1")
