"""Points 3 and 5: holds and left, what pieces take away, and what is left of the heap."""

import unittest

from tests.helper import FULL, LOST, ON, RUN, TOUCHES, WRITTEN, after, ask, formed, holds, last, left, load, put_in

THREE = "vars x, y, z;"
CHAIN = (1, 3, 0, 1, 2, 7, 2, 3, 8, 3, 0, 9)
RING = (1, 2, 5, 1, 2, 0, 2, 3, 0, 3, 1, 0)


class Asserted(unittest.TestCase):

    def asserted(self, numbers, text, held, answer):
        """holds and left of the same text and store, the names x, y and z."""
        got = ask(load(THREE), put_in(*numbers), holds(text), left(text))
        self.assertEqual(got[2:], [[held], answer], text)


class Refusals(unittest.TestCase):

    def test_no_store(self):
        self.assertEqual(ask(holds("emp"), left("emp")), [[-6], [-6]])
        got = ask(load("vars x;"), put_in(1), load("vars x;"), holds("emp"), left("emp"))
        self.assertEqual(got[3:], [[-6], [-6]])

    def test_no_store_comes_before_the_others(self):
        for text in ([256], [-1], [32] * 4097, [256] * 5000, "", "?", "x == 0 : emp", "emp emp", "cell"):
            self.assertEqual(ask(holds(text), left(text), load("vars x;"), holds(text), left(text)),
                             [[-6], [-6], [0, 1], [-6], [-6]])


class Emp(Asserted):

    def test_without_cells(self):
        self.asserted((1, 2, 3), "emp", 1, [0, 0, 0, 0])

    def test_with_cells(self):
        self.asserted((0, 0, 0, 5, 6, 7), "emp", 0, [0, 0, 0, 1, 5, 6, 7])
        self.asserted([0, 0, 0] + FULL, "emp", 0, [0, 0, 0, 12] + FULL)

    def test_program_without_names(self):
        self.assertEqual(ask(put_in(), holds("emp"), left("emp"), put_in(1, 0, 2), holds("emp"), left("emp")),
                         [[0], [1], [0, 0, 0, 0], [0], [0], [0, 0, 0, 1, 1, 0, 2]])


class PlainParts(Asserted):

    def test_that_hold(self):
        for text in ("x == x", "x == y", "x != z", "z != x", "0 == 0", "z == z", "x != 0", "0 != y"):
            self.asserted((4, 4, 5), text + " : emp", 1, [0, 1, 0, 0])

    def test_that_do_not_hold(self):
        for text in ("x == z", "z == x", "x != y", "x != x", "0 != 0", "x == 0", "0 == z"):
            self.asserted((4, 4, 5), text + " : emp", 0, [0, 0, 0, 0])

    def test_zero(self):
        self.asserted((0, 1, 0), "x == 0 and 0 == z and y != 0 and 0 != y : emp", 1, [0, 4, 0, 0])

    def test_how_many_before_the_first_that_does_not(self):
        good, bad = "x == x", "x != x"
        for count in range(7):
            for at in range(count + 1):
                parts = [bad if place == at else good for place in range(count)]
                text = (" and ".join(parts) + " : " if parts else "") + "emp"
                self.asserted((1, 0, 0), text, 1 if at == count else 0, [0, at, 0, 0])

    def test_those_behind_the_first_that_does_not_are_not_counted(self):
        self.asserted((1, 0, 0), "x == x and x != x and x == x and x != x and x == x : emp", 0, [0, 1, 0, 0])

    def test_pieces_are_taken_away_whatever_the_plain_parts_say(self):
        self.asserted((1, 0, 0, 1, 2, 3), "x == 0 : cell x -> any, any", 0, [0, 0, 1, 0])
        self.asserted((1, 0, 0, 1, 2, 3), "x != 0 : cell x -> any, any", 1, [0, 1, 1, 0])
        self.asserted((1, 0, 0, 1, 2, 3), "x != 0 : cell y -> any, any", 0, [0, 1, 0, 1, 1, 2, 3])

    def test_cells_are_no_matter(self):
        self.asserted((1, 1, 0, 1, 2, 3), "x == y : emp", 0, [0, 1, 0, 1, 1, 2, 3])


class Cells(Asserted):

    def test_names(self):
        self.asserted((5, 20, 30, 5, 20, 30), "cell x -> y, z", 1, [0, 0, 1, 0])
        self.asserted((5, 20, 30, 5, 30, 20), "cell x -> y, z", 0, [0, 0, 0, 1, 5, 30, 20])
        self.asserted((5, 20, 30, 5, 20, 31), "cell x -> y, z", 0, [0, 0, 0, 1, 5, 20, 31])
        self.asserted((5, 20, 30, 5, 21, 30), "cell x -> y, z", 0, [0, 0, 0, 1, 5, 21, 30])
        self.asserted((5, 5, 5, 5, 5, 5), "cell x -> x, y", 1, [0, 0, 1, 0])

    def test_zero(self):
        self.asserted((5, 0, 0, 5, 0, 7), "cell x -> 0, any", 1, [0, 0, 1, 0])
        self.asserted((5, 0, 0, 5, 7, 0), "cell x -> any, 0", 1, [0, 0, 1, 0])
        self.asserted((5, 0, 0, 5, 7, 0), "cell x -> 0, any", 0, [0, 0, 0, 1, 5, 7, 0])
        self.asserted((5, 0, 0, 5, 0, 7), "cell x -> any, 0", 0, [0, 0, 0, 1, 5, 0, 7])
        self.asserted((5, 0, 0, 5, 0, 0), "cell x -> 0, y", 1, [0, 0, 1, 0])

    def test_any(self):
        for fields in ((0, 0), (99, 99), (5, 1)):
            self.asserted((5, 0, 0, 5) + fields, "cell x -> any, any", 1, [0, 0, 1, 0])

    def test_no_cell_is_there(self):
        for number in (0, 4, 6, 13, 99):
            self.asserted((number, 0, 0, 5, 0, 0), "cell x -> any, any", 0, [0, 0, 0, 1, 5, 0, 0])
        self.asserted((5, 0, 0, 5, 0, 0), "cell 0 -> 0, 0", 0, [0, 0, 0, 1, 5, 0, 0])

    def test_at_the_edges(self):
        self.asserted((1, 12, 0, 1, 12, 0, 12, 1, 0), "cell x -> y, 0 * cell y -> x, 0", 1, [0, 0, 2, 0])

    def test_something_is_left(self):
        self.asserted((5, 0, 0, 4, 0, 0, 5, 0, 0, 6, 1, 2), "cell x -> 0, 0", 0, [0, 0, 1, 2, 4, 0, 0, 6, 1, 2])

    def test_taken_away_already(self):
        self.asserted((5, 5, 0, 5, 0, 0), "cell x -> 0, 0 * cell x -> 0, 0", 0, [0, 0, 1, 0])
        self.asserted((5, 5, 0, 5, 0, 0), "cell x -> any, any * cell y -> any, any", 0, [0, 0, 1, 0])


class Lists(Asserted):

    def test_from_a_number_to_itself(self):
        for number in (0, 1, 7, 99):
            self.asserted((number, number, 0), "list(x, x)", 1, [0, 0, 1, 0])
            self.asserted((number, number, 0), "list(x, y)", 1, [0, 0, 1, 0])
        self.asserted((0, 0, 0), "list(0, 0)", 1, [0, 0, 1, 0])
        # Nothing is taken away, though a cell is there, and though it would lead back.
        self.asserted((5, 5, 0, 5, 5, 5), "list(x, y)", 0, [0, 0, 1, 1, 5, 5, 5])

    def test_to_0(self):
        self.asserted(CHAIN, "list(x, 0)", 1, [0, 0, 1, 0])
        self.asserted(CHAIN, "list(y, 0)", 0, [0, 0, 1, 2, 1, 2, 7, 2, 3, 8])

    def test_to_another_cell(self):
        self.asserted(CHAIN, "list(x, y)", 0, [0, 0, 1, 1, 3, 0, 9])
        self.asserted(CHAIN, "list(x, y) * cell y -> 0, any", 1, [0, 0, 2, 0])
        self.asserted(CHAIN, "list(x, y) * list(y, 0)", 1, [0, 0, 2, 0])

    def test_to_a_number_that_stands_nowhere(self):
        self.asserted((1, 9, 0, 1, 2, 7, 2, 0, 8), "list(x, y)", 0, [0, 0, 0, 2, 1, 2, 7, 2, 0, 8])

    def test_to_a_number_at_which_no_cell_is(self):
        self.asserted((1, 9, 0, 1, 2, 7, 2, 9, 8), "list(x, y)", 1, [0, 0, 1, 0])
        self.asserted((1, 50, 0, 1, 2, 7, 2, 50, 8), "list(x, y)", 1, [0, 0, 1, 0])
        self.asserted((1, 50, 0, 1, 2, 7, 2, 50, 8), "list(x, 0)", 0, [0, 0, 0, 2, 1, 2, 7, 2, 50, 8])
        self.asserted((1, 50, 0, 1, 2, 7, 2, 9, 8), "list(x, 0)", 0, [0, 0, 0, 2, 1, 2, 7, 2, 9, 8])

    def test_from_a_number_at_which_no_cell_is(self):
        for number in (2, 13, 99):
            self.asserted((number, 0, 0, 1, 0, 0), "list(x, 0)", 0, [0, 0, 0, 1, 1, 0, 0])
        self.asserted((1, 0, 0, 1, 0, 0), "list(0, x)", 0, [0, 0, 0, 1, 1, 0, 0])

    def test_through_a_ring(self):
        whole = [3, 1, 2, 0, 2, 3, 0, 3, 1, 0]
        self.asserted(RING, "list(x, 0)", 0, [0, 0, 0] + whole)
        self.asserted(RING, "list(x, z)", 0, [0, 0, 0] + whole)
        self.asserted(RING, "list(x, y)", 0, [0, 0, 1, 2, 2, 3, 0, 3, 1, 0])
        self.asserted(RING, "list(y, x)", 0, [0, 0, 1, 1, 1, 2, 0])
        self.asserted(RING, "list(x, y) * list(y, x)", 1, [0, 0, 2, 0])
        self.asserted(RING, "cell x -> y, 0 * list(y, x)", 1, [0, 0, 2, 0])
        self.asserted((4, 0, 0, 4, 4, 0), "list(x, 0)", 0, [0, 0, 0, 1, 4, 4, 0])

    def test_into_a_ring_behind_a_beginning(self):
        self.asserted((9, 1, 0, 1, 2, 0, 2, 1, 0, 9, 1, 0), "list(x, y)", 0, [0, 0, 1, 2, 1, 2, 0, 2, 1, 0])
        self.asserted((9, 0, 0, 1, 2, 0, 2, 1, 0, 9, 1, 0), "list(x, 0)", 0, [0, 0, 0, 3, 1, 2, 0, 2, 1, 0, 9, 1, 0])

    def test_data_is_no_matter(self):
        self.asserted((1, 9, 0, 1, 0, 9), "list(x, y)", 0, [0, 0, 0, 1, 1, 0, 9])
        self.asserted((1, 0, 0, 1, 0, 1), "list(x, 0)", 1, [0, 0, 1, 0])

    def test_through_all_addresses(self):
        cells = [number for address in range(1, 13) for number in (address, (address + 1) % 13, 0)]
        self.asserted([1, 12, 0] + cells, "list(x, 0)", 1, [0, 0, 1, 0])
        self.asserted([1, 12, 0] + cells, "list(x, y)", 0, [0, 0, 1, 1, 12, 0, 0])


class Trees(Asserted):

    def test_of_0(self):
        self.asserted((0, 0, 0), "tree(0)", 1, [0, 0, 1, 0])
        self.asserted((0, 0, 0), "tree(x)", 1, [0, 0, 1, 0])
        self.asserted((0, 0, 0, 1, 0, 0), "tree(x)", 0, [0, 0, 1, 1, 1, 0, 0])

    def test_of_one_cell(self):
        self.asserted((3, 0, 0, 3, 0, 0), "tree(x)", 1, [0, 0, 1, 0])

    def test_no_cell_is_there(self):
        for number in (2, 13, 99):
            self.asserted((number, 0, 0, 3, 0, 0), "tree(x)", 0, [0, 0, 0, 1, 3, 0, 0])

    def test_no_cell_is_there_further_on(self):
        for fields in ((4, 0), (0, 4), (13, 0), (0, 99)):
            self.asserted((3, 0, 0, 3) + fields, "tree(x)", 0, [0, 0, 0, 1, 3] + list(fields))

    def test_both_fields_lead_on(self):
        self.asserted((1, 0, 0, 1, 2, 3, 2, 4, 0, 3, 0, 5, 4, 0, 0, 5, 0, 0), "tree(x)", 1, [0, 0, 1, 0])
        self.asserted((1, 2, 3, 1, 2, 3, 2, 4, 0, 3, 0, 5, 4, 0, 0, 5, 0, 0), "tree(z)", 0,
                      [0, 0, 1, 3, 1, 2, 3, 2, 4, 0, 4, 0, 0])

    def test_cells_that_share_one(self):
        self.asserted((1, 0, 0, 1, 2, 3, 2, 4, 0, 3, 0, 4, 4, 0, 0), "tree(x)", 0,
                      [0, 0, 0, 4, 1, 2, 3, 2, 4, 0, 3, 0, 4, 4, 0, 0])
        self.asserted((1, 0, 0, 1, 2, 2, 2, 0, 0), "tree(x)", 0, [0, 0, 0, 2, 1, 2, 2, 2, 0, 0])

    def test_ring(self):
        self.asserted((1, 0, 0, 1, 1, 0), "tree(x)", 0, [0, 0, 0, 1, 1, 1, 0])
        self.asserted((1, 0, 0, 1, 0, 1), "tree(x)", 0, [0, 0, 0, 1, 1, 0, 1])
        self.asserted((1, 0, 0, 1, 2, 0, 2, 0, 1), "tree(x)", 0, [0, 0, 0, 2, 1, 2, 0, 2, 0, 1])

    def test_taken_away_already(self):
        numbers = (1, 2, 0, 1, 2, 0, 2, 0, 0)
        self.asserted(numbers, "cell y -> any, any * tree(x)", 0, [0, 0, 1, 1, 1, 2, 0])
        self.asserted(numbers, "tree(y) * tree(x)", 0, [0, 0, 1, 1, 1, 2, 0])
        self.asserted(numbers, "tree(x) * tree(y)", 0, [0, 0, 1, 0])
        self.asserted(numbers, "tree(x) * tree(z)", 1, [0, 0, 2, 0])

    def test_all_addresses(self):
        below = {address: [number if number < 13 else 0 for number in (2 * address, 2 * address + 1)]
                 for address in range(1, 13)}
        cells = [number for address in below for number in [address] + below[address]]
        self.asserted([1, 0, 0] + cells, "tree(x)", 1, [0, 0, 1, 0])
        line = [number for address in range(1, 13) for number in (address, 0, (address + 1) % 13)]
        self.asserted([1, 0, 0] + line, "tree(x)", 1, [0, 0, 1, 0])


class Order(Asserted):

    def test_what_an_earlier_piece_has_taken(self):
        # The cell is taken out of the middle: the list can't go through it any more.
        numbers = (1, 2, 0, 1, 2, 0, 2, 3, 0, 3, 0, 0)
        self.asserted(numbers, "cell y -> any, any * list(x, 0)", 0, [0, 0, 1, 2, 1, 2, 0, 3, 0, 0])
        self.asserted(numbers, "cell y -> any, any * list(x, y)", 0, [0, 0, 2, 1, 3, 0, 0])
        self.asserted(numbers, "list(x, 0) * cell y -> any, any", 0, [0, 0, 1, 0])

    def test_order_makes_the_difference(self):
        # In a ring each list takes its own part, but none that is to lead out of it.
        self.asserted(RING, "list(y, x) * list(x, y)", 1, [0, 0, 2, 0])
        self.asserted(RING, "list(x, 0) * cell y -> any, any", 0, [0, 0, 0, 3, 1, 2, 0, 2, 3, 0, 3, 1, 0])
        self.asserted((1, 2, 0, 1, 2, 0, 2, 0, 0), "list(x, y) * list(x, y) * tree(y)", 0, [0, 0, 1, 1, 2, 0, 0])

    def test_pieces_behind_the_first_that_cannot_be_taken(self):
        self.asserted((1, 2, 9, 1, 0, 0, 2, 0, 0), "cell x -> 0, 0 * cell z -> 0, 0 * cell y -> 0, 0", 0,
                      [0, 0, 1, 1, 2, 0, 0])

    def test_piece_that_takes_part_leaves_the_heap_before_it(self):
        # The list comes over 4 and 5 and can't go on: both are left.
        self.asserted((4, 2, 0, 2, 0, 0, 4, 5, 0, 5, 9, 0), "cell y -> 0, 0 * list(x, 0)", 0,
                      [0, 0, 1, 2, 4, 5, 0, 5, 9, 0])
        self.asserted((4, 2, 0, 2, 0, 0, 4, 5, 0, 5, 9, 0), "list(y, 0) * tree(x)", 0, [0, 0, 1, 2, 4, 5, 0, 5, 9, 0])

    def test_what_is_left_by_rising_addresses(self):
        self.asserted((6, 0, 0, 1, 9, 9, 3, 8, 8, 6, 0, 0, 11, 7, 7, 12, 1, 1), "tree(x)", 0,
                      [0, 0, 1, 4, 1, 9, 9, 3, 8, 8, 11, 7, 7, 12, 1, 1])

    def test_six_pieces(self):
        text = "vars a, b, c, d, e, f;"
        cells = [1, 2, 3, 4, 5, 6] + FULL[:18]
        pieces = " * ".join("cell " + name + " -> 0, 0" for name in "fbdeca")
        got = ask(load(text), put_in(*cells), holds(pieces), left(pieces), put_in(*cells[:-3]), left(pieces))
        self.assertEqual(got[2:], [[1], [0, 0, 6, 0], [0], [0, 0, 0, 5] + FULL[:15]])

    def test_nothing_may_be_left_and_all_must_be_taken(self):
        self.asserted(CHAIN, "x != 0 and y != z : list(x, y) * cell y -> 0, any * list(z, 0)", 1, [0, 2, 3, 0])
        self.asserted(CHAIN, "x != 0 and y == z : list(x, y) * cell y -> 0, any * list(z, 0)", 0, [0, 1, 3, 0])
        self.asserted(CHAIN, "x != 0 and y != z : list(x, y) * list(z, 0)", 0, [0, 2, 2, 1, 3, 0, 9])
        self.asserted(CHAIN, "x != 0 and y != z : list(x, y) * cell y -> 0, any * cell z -> any, any", 0, [0, 2, 2, 0])


class Held(unittest.TestCase):

    def test_holds_and_left_leave_what_is_held(self):
        got = ask(load("vars x; x = new;"), put_in(2, 2, 0, 0), WRITTEN, RUN, after(0), TOUCHES, LOST, left("tree(x)"),
                  holds("tree(x)"), formed("tree(x)"), holds("?"), left([256]), formed("tree(y)"),
                  WRITTEN, RUN, after(0), TOUCHES, LOST, holds("tree(x)"), left("cell x -> x, x"))
        self.assertEqual(got[13:18], got[2:7])
        self.assertEqual(got[18:], [[1], [0, 0, 0, 1, 2, 0, 0]])

    def test_of_the_store_that_is_held_not_of_the_run(self):
        got = ask(load("vars x; x = new;"), put_in(0), RUN, holds("x == 0 : emp"), ON, holds("x == 0 : emp"),
                  holds("cell x -> 0, 0"), put_in(0), holds("x == 0 : emp"))
        self.assertEqual([part[0] for part in got[3:]], [1, 0, 0, 1, 0, 1])

    def test_behind_a_run_that_has_gone_wrong(self):
        got = ask(load("vars x, y; x = new; free y;"), put_in(0, 7), ON, left("cell x -> 0, 0"))
        self.assertEqual(got[2:], [[0, 1, 3, 7, 1, 1, 7, 1, 1, 0, 0], [0, 0, 1, 0]])

    def test_names_of_another_program(self):
        got = ask(load("vars x;"), put_in(3, 3, 0, 0), holds("tree(x)"), load("vars y;"), put_in(3, 3, 0, 0),
                  holds("tree(x)"), holds("tree(y)"))
        self.assertEqual(got[2:], [[1], [0, 1], [0], [3, 7, 5], [1]])


if __name__ == "__main__":
    unittest.main()
