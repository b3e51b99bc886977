"""Points 3 and 4: beside, its refusals, and which cells a run keeps."""

import unittest

from tests.helper import FOR_EVER, FULL, RUN, TURN_ROUND, WRITTEN, after, ask, beside, last, load, put_in

NO_CELLS = (
    (1,), (1, 2), (1, 2, 3, 4), (1, 2, 3, 4, 5), (0, 0, 0), (13, 0, 0), (-1, 0, 0), (10 ** 18, 0, 0), (-10 ** 18, 0, 0),
    (1, 100, 0), (1, 0, 100), (1, -1, 0), (1, 0, -1), (1, 0, 10 ** 18), (1, 0, 0, 1, 0, 0), (1, 2, 3, 1, 4, 5),
    (2, 0, 0, 1, 0, 0), (3, 0, 0, 5, 0, 0, 4, 0, 0), (12, 0, 0, 13, 0, 0), (1, 0, 0, 2, 0, 100), (1, 0, 0, 0, 0, 0),
)


def kept(text, numbers, cells):
    return last(load(text), put_in(*numbers), beside(*cells))


class Refusals(unittest.TestCase):

    def test_no_store(self):
        self.assertEqual(ask(beside(), beside(1, 0, 0)), [[-6], [-6]])
        self.assertEqual(ask(load("vars x;"), beside(1, 0, 0)), [[0, 1], [-6]])

    def test_no_store_comes_before_the_others(self):
        for cells in NO_CELLS:
            self.assertEqual(last(load("vars x;"), beside(*cells)), [-6], cells)
        # A cell was there, but that store went with the load.
        self.assertEqual(last(load("vars x;"), put_in(0, 1, 0, 0), load("vars x;"), beside(1, 0, 0)), [-6])

    def test_list_that_is_not_cells(self):
        for cells in NO_CELLS:
            self.assertEqual(ask(load("vars x;"), put_in(4), beside(*cells), RUN)[2:], [[-4], [0, 0, 0, 4, 0]], cells)
        self.assertEqual(last(put_in(), beside(*[1] * 5000)), [-4])

    def test_no_numbers_of_names_stand_before_the_cells(self):
        self.assertEqual(kept("vars x;", (4,), (5, 1, 2, 3)), [-4])
        self.assertEqual(kept("vars x, y, z;", (4, 4, 4), (5, 6, 7)), [1])

    def test_cell_is_there_already(self):
        for cells in ((3, 1, 2), (3, 0, 0), (1, 0, 0, 3, 0, 0), (3, 0, 0, 12, 0, 0), (1, 0, 0, 2, 0, 0, 5, 5, 5)):
            got = ask(load("vars x;"), put_in(4, 3, 1, 2, 5, 5, 5), beside(*cells), RUN)
            self.assertEqual(got[2:], [[-5], [0, 0, 0, 4, 2, 3, 1, 2, 5, 5, 5]], cells)
        self.assertEqual(last(put_in(*FULL), beside(*FULL)), [-5])

    def test_not_cells_comes_before_there_already(self):
        for cells in ((3, 0, 0, 4), (3, 0, 0, 3, 0, 0), (3, 0, 100), (3, 0, 0, 2, 0, 0), (3, 0, 0, 13, 0, 0)):
            self.assertEqual(kept("vars x;", (4, 3, 1, 2), cells), [-4], cells)


class Kept(unittest.TestCase):

    def test_no_cells_at_all(self):
        for text, numbers in (("vars x;", (0,)), ("vars x; x = new;", (0,)), ("vars x; free x;", (0,)), (FOR_EVER, (0,)),
                              ("vars x; x = new;", [0] + FULL), (TURN_ROUND, (1, 0, 0, 1, 2, 7, 2, 0, 8))):
            self.assertEqual(kept(text, numbers, ()), [1], text)

    def test_cells_that_the_run_never_comes_to(self):
        numbers = (1, 0, 0, 1, 2, 7, 2, 0, 8)
        for cells in ((5, 6, 7), (3, 1, 2), (12, 99, 0), FULL[6:]):
            self.assertEqual(kept(TURN_ROUND, numbers, cells), [1], cells)
        self.assertEqual(last(put_in(), beside(*FULL)), [1])
        self.assertEqual(kept("vars x; x = 0;", (5,), (5, 5, 5)), [1])

    def test_new_comes_to_another_address(self):
        self.assertEqual(kept("vars x; x = new;", (0,), (1, 0, 0)), [0])
        self.assertEqual(kept("vars x; x = new;", (0,), (2, 0, 0)), [1])
        self.assertEqual(kept("vars x; x = new;", (0, 1, 0, 0), (2, 5, 5)), [0])
        self.assertEqual(kept("vars x; x = new;", (0, 1, 0, 0), (3, 5, 5)), [1])

    def test_another_address_that_is_forgotten(self):
        # The cell is freed again, and its address stands nowhere: the cells beside make no difference.
        self.assertEqual(kept("vars x; x = new; free x; x = 0;", (0,), (1, 0, 0)), [1])
        self.assertEqual(kept("vars x; x = new; free x;", (0,), (1, 0, 0)), [0])

    def test_another_address_that_stands_in_a_field(self):
        text = "vars x, y; y = new; x.data = y; free y; y = 0;"
        self.assertEqual(kept(text, (9, 0, 9, 0, 0), (2, 0, 0)), [1])
        self.assertEqual(kept(text, (9, 0, 9, 0, 0), (1, 0, 0)), [0])

    def test_no_room_because_of_them(self):
        self.assertEqual(kept("vars x; x = new; free x; x = 0;", [0] + FULL[:33], (12, 0, 0)), [0])
        self.assertEqual(kept("vars x; x = new; x = 0;", [0], FULL), [0])
        self.assertEqual(kept("vars x; x = new; x = 0;", [0], FULL[3:]), [1])

    def test_no_room_with_and_without(self):
        text = "vars x, y; while x == y { x = new; free x; x = 0; }"
        self.assertEqual(kept(text, [0, 0] + FULL[:33], (12, 0, 0)), [0])
        self.assertEqual(kept("vars x; while 0 == 0 { x = new; }", [0], (12, 0, 0)), [0])

    def test_read_of_one_of_them(self):
        self.assertEqual(kept("vars x; x = x.next;", (3,), (3, 3, 3)), [0])
        self.assertEqual(kept("vars x; x = x.next;", (3,), (4, 3, 3)), [1])
        self.assertEqual(kept("vars x, y; y = x.data;", (3, 7), (3, 0, 7)), [0])

    def test_write_of_one_of_them(self):
        self.assertEqual(kept("vars x; x.next = 0;", (3,), (3, 0, 0)), [0])
        self.assertEqual(kept("vars x; x.data = 0;", (3,), (2, 0, 0)), [1])

    def test_free_of_one_of_them(self):
        self.assertEqual(kept("vars x; free x;", (3,), (3, 0, 0)), [0])
        self.assertEqual(kept("vars x; free x;", (3,), (1, 0, 0, 4, 0, 0)), [1])

    def test_gone_wrong_alike(self):
        self.assertEqual(kept("vars x; x = x.next;", (0,), (1, 0, 0)), [1])
        self.assertEqual(kept("vars x; x = x.next;", (13,), (12, 0, 0)), [1])

    def test_gone_wrong_at_another_address(self):
        # Without: new comes to 1, which is freed, and the read goes wrong there; with cell 1: at 2.
        self.assertEqual(kept("vars x; x = new; free x; x = x.next;", (0,), (1, 0, 0)), [0])
        text = "vars x, y; x = new; free x; y = x; x = 0; if y == 0 { } y = y.next;"
        self.assertEqual(kept(text, (0, 0), (1, 0, 0)), [0])

    def test_gone_wrong_otherwise_behind_as_many_steps(self):
        text = "vars x, t, z; x = new; free x; if x == t { x = 0; z = z.next; } else { x = 0; free z; }"
        self.assertEqual(kept(text, (0, 1, 0), (1, 0, 0)), [0])
        self.assertEqual(kept(text, (0, 1, 0), (2, 0, 0)), [1])
        text = "vars x, t, y, z; x = new; free x; if x == t { x = 0; free y; } else { x = 0; free z; }"
        self.assertEqual(kept(text, (0, 1, 0, 50), (1, 0, 0)), [0])
        self.assertEqual(kept(text, (0, 1, 50, 50), (1, 0, 0)), [1])

    def test_over_where_it_goes_wrong_without_them(self):
        self.assertEqual(kept("vars x; x.next = x;", (3,), (3, 3, 0)), [0])
        # As many steps and the same store; but the one has gone wrong and the other is over.
        text = "vars x, t; x = new; free x; if x == t { x = 0; x = x.next; } else { x = 0; }"
        self.assertEqual(kept(text, (0, 1), (1, 0, 0)), [0])

    def test_as_many_steps(self):
        text = "vars x, t; x = new; free x; if x == t { x = 0; %s } else { x = 0; }"
        self.assertEqual(kept(text % "", (0, 1), (1, 0, 0)), [1])
        self.assertEqual(kept(text % "t = t;", (0, 1), (1, 0, 0)), [0])
        self.assertEqual(kept(text % "t = t;", (0, 1), (2, 0, 0)), [1])

    def test_same_numbers_of_names(self):
        text = "vars x, t; x = new; free x; if x == t { x = 0; } else { x = t; }"
        self.assertEqual(kept(text, (0, 1), (1, 0, 0)), [0])

    def test_same_heap_beside_them(self):
        text = "vars x, t, y; x = new; free x; if x == t { y.%s = 0; } else { y.%s = y; } x = 0;"
        for field in ("next", "data"):
            self.assertEqual(kept(text % (field, field), (0, 1, 5, 5, 6, 7), (1, 0, 0)), [0])
            self.assertEqual(kept(text % (field, field), (0, 1, 5, 5, 6, 7), (2, 0, 0)), [1])

    def test_one_of_them_is_changed_behind_the_new_address(self):
        # With cell 1, new comes to 2; t leads to cell 1, which is there without them too, by new.
        text = "vars x, t; x = new; t.%s = t; free x; x = 0;"
        for field in ("next", "data"):
            self.assertEqual(kept(text % field, (0, 1), (1, 0, 0)), [0])
            self.assertEqual(kept(text % field, (0, 1), (1, 1, 1)), [1])

    def test_one_of_them_is_taken_away_and_put_there_again(self):
        # The same address with the same fields stands there at the end: just this cell.
        text = "vars x, t; x = new; free t; if x != t { t = new; free x; } else { x = x; x = x; } x = 0; t = 0;"
        self.assertEqual(kept(text, (0, 1), (1, 0, 0)), [1])
        self.assertEqual(kept(text, (0, 1), (1, 0, 5)), [0])

    def test_a_cell_of_its_own_at_the_end(self):
        self.assertEqual(kept("vars x; x = new; x = 0;", (0,), (1, 0, 0)), [0])
        # Both runs end with cell 1 alone, with the same fields; it is one of them, or one of its own.
        text = "vars x, t; x = new; if x == t { t = t; } else { free x; } x = 0;"
        self.assertEqual(ask(load(text), put_in(0, 1), RUN, put_in(0, 1, 1, 0, 0), RUN)[2::2],
                         [[0, 0, 4, 0, 1, 1, 1, 0, 0]] * 2)
        self.assertEqual(kept(text, (0, 1), (1, 0, 0)), [0])
        self.assertEqual(kept(text, (0, 1), (2, 0, 0)), [1])

    def test_cut_off(self):
        self.assertEqual(kept(FOR_EVER, (1,), FULL), [1])
        for_ever = "vars x, t; x = new; %s while t == t { t = t; }"
        self.assertEqual(kept(for_ever % "", (0, 1), (1, 0, 0)), [0])
        self.assertEqual(kept(for_ever % "free x; x = 0;", (0, 1), (1, 0, 0)), [1])

    def test_cut_off_or_over_behind_as_many_steps(self):
        # Without them: 300 steps and over. With them something is left to do then.
        text = ("vars x, t; x = new; free x; while x == t { x = 0; } "
                + "t = t;" * 295 + " if x == 0 { x = 0; } else { x = 0; }")
        self.assertEqual(last(load(text), put_in(0, 2), RUN)[:3], [0, 0, 300])
        self.assertEqual(kept(text, (0, 2), (1, 0, 0)), [0])

    def test_beside_leaves_what_is_held(self):
        got = ask(load("vars x; x = new;"), put_in(4, 2, 3, 4), WRITTEN, RUN, after(0), beside(1, 0, 0), beside(3, 0, 0),
                  beside(2, 0, 0), beside(0), WRITTEN, RUN, after(0))
        self.assertEqual(got[5:9], [[0], [1], [-5], [-4]])
        self.assertEqual(got[9:], got[2:5])


if __name__ == "__main__":
    unittest.main()
