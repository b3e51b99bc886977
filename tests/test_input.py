"""Point 2: input, its form, its refusal, and the store that is held then."""

import unittest

from tests.helper import LOST, RUN, ask, last, load, put_in

TWO = load("vars x, y;")

REFUSED = (
    (), (1,), (-1, 0), (100, 0), (0, -1), (0, 100), (10 ** 18, 0), (0, -10 ** 18),
    (0, 0, 1), (0, 0, 1, 2), (0, 0, 1, 2, 3, 2), (0, 0, 1, 2, 3, 4, 5),
    (0, 0, 0, 0, 0), (0, 0, 13, 0, 0), (0, 0, -1, 0, 0), (0, 0, 10 ** 18, 0, 0),
    (0, 0, 1, -1, 0), (0, 0, 1, 100, 0), (0, 0, 1, 0, -1), (0, 0, 1, 0, 100),
    (0, 0, 1, 0, 0, 1, 0, 0), (0, 0, 1, 2, 3, 1, 4, 5), (0, 0, 2, 0, 0, 1, 0, 0), (0, 0, 3, 0, 0, 4, 0, 0, 2, 0, 0),
    (0, 0, 1, 0, 0, 0, 0, 0), (0, 0, 12, 0, 0, 13, 0, 0),
)


def all_cells(last_address):
    return [number for address in range(1, last_address + 1) for number in (address, address, 99 - address)]


class Input(unittest.TestCase):

    def test_list_that_is_not_of_its_form(self):
        for numbers in REFUSED:
            self.assertEqual(last(TWO, put_in(*numbers)), [-4], numbers)

    def test_refusal_leaves_no_store(self):
        for numbers in REFUSED:
            self.assertEqual(last(TWO, put_in(*numbers), RUN), [-6], numbers)

    def test_refusal_leaves_the_store_as_it_was(self):
        for numbers in REFUSED:
            got = ask(TWO, put_in(7, 8, 3, 9, 10), put_in(*numbers), RUN)
            self.assertEqual(got[1:], [[0], [-4], [0, 0, 0, 7, 8, 1, 3, 9, 10]], numbers)

    def test_too_many_cells_by_far(self):
        self.assertEqual(last(TWO, put_in(*([0] * 5000))), [-4])

    def test_edges_of_numbers(self):
        for numbers in ((0, 99), (99, 0), (12, 13)):
            self.assertEqual(ask(TWO, put_in(*numbers), RUN)[1:], [[0], [0, 0, 0, *numbers, 0]])
        got = ask(TWO, put_in(0, 0, 1, 0, 99, 12, 99, 0), RUN)[1:]
        self.assertEqual(got, [[0], [0, 0, 0, 0, 0, 2, 1, 0, 99, 12, 99, 0]])

    def test_twelve_cells(self):
        self.assertEqual(last(TWO, put_in(1, 2, *all_cells(12)), RUN), [0, 0, 0, 1, 2, 12] + all_cells(12))
        self.assertEqual(last(TWO, put_in(1, 2, *all_cells(13))), [-4])

    def test_takes_the_place_of_the_store_before(self):
        self.assertEqual(last(TWO, put_in(1, 2, 3, 4, 5), put_in(6, 7), RUN), [0, 0, 0, 6, 7, 0])

    def test_program_without_names(self):
        self.assertEqual(ask(RUN, put_in(), RUN, LOST), [[-6], [0], [0, 0, 0, 0], [0, 0]])
        self.assertEqual(ask(put_in(4, 5, 6), RUN, LOST), [[0], [0, 0, 0, 1, 4, 5, 6], [0, 1, 4]])
        self.assertEqual(ask(put_in(1), put_in(1, 2), put_in(0, 0, 0), put_in(1, 2, 3, 4)), [[-4]] * 4)

    def test_names_come_in_order(self):
        got = last(load("vars b, a; b = a;"), put_in(1, 2), RUN)
        self.assertEqual(got, [0, 0, 1, 2, 2, 0])

    def test_form_is_that_of_the_program_that_is_held(self):
        self.assertEqual(ask(put_in(1, 2, 3), TWO, put_in(1), put_in(1, 2), load("vars x;"), put_in(1, 2), put_in(1)),
                         [[0], [0, 2], [-4], [0], [0, 1], [-4], [0]])


if __name__ == "__main__":
    unittest.main()
