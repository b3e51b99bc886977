"""Point 3: on, which answers as run and goes on to the store that the run ends with."""

import unittest

from tests.helper import (
    FOR_EVER, FULL, LOST, ON, RUN, TOUCHES, TURN_ROUND, WRITTEN, after, ask, holds, left, load, put_in)


class On(unittest.TestCase):

    def test_no_store(self):
        self.assertEqual(ask(ON, ON), [[-6], [-6]])
        self.assertEqual(ask(load("vars x; x = new;"), ON, RUN, ON, TOUCHES), [[0, 1]] + [[-6]] * 4)
        self.assertEqual(ask(put_in(), ON, load("vars x;"), ON, LOST), [[0], [0, 0, 0, 0], [0, 1], [-6], [-6]])

    def test_answers_as_run(self):
        for text, numbers in ((TURN_ROUND, (1, 0, 0, 1, 2, 7, 2, 0, 8)), ("vars x; x = new;", (4,) + tuple(FULL)),
                              (FOR_EVER, (4, 4, 5, 6)), ("vars x; x = x.next; x.data = 0;", (7, 7, 13, 99))):
            got = ask(load(text), put_in(*numbers), RUN, ON)
            self.assertEqual(got[3], got[2], text)

    def test_store_of_a_run_that_is_over(self):
        got = ask(load("vars x, y; x = new; x.next = y; y = x;"), put_in(0, 9), ON, after(0), LOST, left("emp"))
        self.assertEqual(got[2:], [[0, 0, 3, 1, 1, 1, 1, 9, 0], [0, 2, 0, 1, 1, 1, 1, 9, 0], [0, 0],
                                   [0, 0, 0, 1, 1, 9, 0]])

    def test_second_on_goes_on_from_there(self):
        got = ask(load("vars x, y; x = new; x.next = y; y = x;"), put_in(0, 9), ON, ON, ON, RUN)
        self.assertEqual(got[2:5], [
            [0, 0, 3, 1, 1, 1, 1, 9, 0],
            [0, 0, 3, 2, 2, 2, 1, 9, 0, 2, 1, 0],
            [0, 0, 3, 3, 3, 3, 1, 9, 0, 2, 1, 0, 3, 2, 0]])
        self.assertEqual(got[5], [0, 0, 3, 4, 4, 4, 1, 9, 0, 2, 1, 0, 3, 2, 0, 4, 3, 0])

    def test_store_of_a_run_that_has_gone_wrong(self):
        got = ask(load("vars x; free x; x = x.next;"), put_in(1, 1, 0, 0), ON, after(0), ON, ON)
        self.assertEqual(got[2:], [[0, 1, 1, 1, 1, 1, 0], [0, 2, 0, 1, 0], [0, 1, 3, 1, 0, 1, 0], [0, 1, 3, 1, 0, 1, 0]])
        got = ask(load("vars x; while 0 == 0 { x = new; }"), put_in(5), ON, left("cell x -> 0, 0"), ON)
        self.assertEqual(got[2:], [[0, 1, 4, 0, 25, 12, 12] + FULL, [0, 0, 1, 11] + FULL[:33],
                                   [0, 1, 4, 0, 1, 12, 12] + FULL])

    def test_store_of_a_run_that_is_cut_off(self):
        text = "vars x, y, z; while x == x { z = x; x = y; y = z; }"
        got = ask(load(text), put_in(3, 4, 5), ON, after(0), ON, after(0))
        # 75 rounds of four steps: the two have been exchanged an odd number of times.
        self.assertEqual(got[2:], [[0, 2, 300, 4, 3, 3, 0], [0, 2, 0, 4, 3, 3, 0],
                                   [0, 2, 300, 3, 4, 4, 0], [0, 2, 0, 3, 4, 4, 0]])

    def test_program_is_run_from_its_beginning_again(self):
        text = "vars x, y; x = new; while y == y { y = y; }"
        got = ask(load(text), put_in(0, 0), ON, ON, RUN)
        self.assertEqual(got[2:], [[0, 2, 300, 1, 0, 1, 1, 0, 0], [0, 2, 300, 2, 0, 2, 1, 0, 0, 2, 0, 0],
                                   [0, 2, 300, 3, 0, 3, 1, 0, 0, 2, 0, 0, 3, 0, 0]])

    def test_program_stays(self):
        got = ask(load("vars x; x = 0;"), put_in(8), WRITTEN, ON, WRITTEN, put_in(7), RUN)
        self.assertEqual(got[4], got[2])
        self.assertEqual(got[5:], [[0], [0, 0, 1, 0, 0]])

    def test_only_on_changes_the_store(self):
        got = ask(load("vars x; x = new;"), put_in(8), RUN, after(1), TOUCHES, holds("emp"), after(0), ON, holds("emp"))
        self.assertEqual(got[5:], [[1], [0, 2, 0, 8, 0], [0, 0, 1, 1, 1, 1, 0, 0], [0]])

    def test_addresses_rise_whenever_the_cells_were_put_there(self):
        # 2 and 3 are put there later than 4.
        text = "vars x; x = new; free x; x = new; x = new; x = 0;"
        got = ask(load(text), put_in(0, 1, 0, 0, 4, 0, 0), ON, LOST, left("emp"), ON, LOST)
        self.assertEqual(got[2:5], [[0, 0, 5, 0, 4] + FULL[:12], [0, 4, 1, 2, 3, 4], [0, 0, 0, 4] + FULL[:12]])
        self.assertEqual(got[6], [0, 6, 1, 2, 3, 4, 5, 6])

    def test_program_without_names(self):
        self.assertEqual(ask(put_in(3, 4, 5), ON, ON)[1:], [[0, 0, 0, 1, 3, 4, 5]] * 2)


if __name__ == "__main__":
    unittest.main()
