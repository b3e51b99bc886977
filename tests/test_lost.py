"""Point 3: lost."""

import unittest

from tests.helper import LOST, RUN, ask, last, load, put_in


def lost(text, *numbers):
    return last(load(text), put_in(*numbers), LOST)


class Lost(unittest.TestCase):

    def test_no_store(self):
        self.assertEqual(last(LOST), [-6])
        self.assertEqual(last(load("vars x;"), LOST), [-6])
        self.assertEqual(last(load("vars x;"), put_in(1, 2), LOST), [-6])

    def test_no_cells(self):
        self.assertEqual(lost("vars x;", 1), [0, 0])

    def test_no_name_leads_there(self):
        for number in (0, 1, 12, 13, 99):
            self.assertEqual(lost("vars x;", number, 2, 0, 0, 5, 0, 0), [0, 2, 2, 5])
        self.assertEqual(last(put_in(3, 4, 5, 4, 3, 5), LOST), [0, 2, 3, 4])

    def test_each_name_leads(self):
        self.assertEqual(lost("vars x, y;", 2, 5, 2, 0, 0, 5, 0, 0, 7, 0, 0), [0, 1, 7])
        self.assertEqual(lost("vars a, b, c, d, e, f;", 0, 0, 0, 0, 0, 12, 12, 0, 0), [0, 0])

    def test_next_and_data_lead(self):
        self.assertEqual(lost("vars x;", 1, 1, 2, 0, 2, 0, 3, 3, 4, 5, 4, 0, 0, 5, 0, 0, 6, 0, 0), [0, 1, 6])

    def test_cell_that_leads_to_others_is_lost_itself(self):
        self.assertEqual(lost("vars x;", 2, 1, 2, 2, 2, 0, 0), [0, 1, 1])

    def test_lost_cells_lead_nowhere(self):
        self.assertEqual(lost("vars x;", 1, 1, 0, 0, 2, 3, 3, 3, 2, 2), [0, 2, 2, 3])

    def test_rings(self):
        through_next = (3, 7, 0, 5, 3, 0, 7, 5, 0)
        through_data = (3, 0, 7, 5, 0, 3, 7, 0, 5)
        through_both = (3, 7, 3, 5, 5, 3, 7, 7, 5)
        for cells in (through_next, through_data, through_both):
            for inside in (3, 5, 7):
                self.assertEqual(lost("vars x;", inside, *cells), [0, 0])
            self.assertEqual(lost("vars x;", 4, *cells), [0, 3, 3, 5, 7])
            self.assertEqual(lost("vars x;", 1, 1, 2, 1, *cells), [0, 3, 3, 5, 7])
            self.assertEqual(lost("vars x;", 1, 1, 1, 5, *cells), [0, 0])

    def test_cell_that_leads_to_itself(self):
        self.assertEqual(lost("vars x;", 0, 4, 4, 4), [0, 1, 4])
        self.assertEqual(lost("vars x;", 4, 4, 4, 4), [0, 0])

    def test_in_the_store_that_is_held_not_at_the_end_of_the_run(self):
        got = ask(load("vars x; x = 0;"), put_in(1, 1, 0, 0), RUN, LOST)
        self.assertEqual(got[3], [0, 0])
        got = ask(load("vars x; x = new;"), put_in(0, 4, 0, 0), RUN, LOST)
        self.assertEqual(got[3], [0, 1, 4])

    def test_twelve_cells_in_a_row(self):
        cells = [number for address in range(1, 13) for number in (address, 0, address - 1)]
        for number in range(13):
            self.assertEqual(lost("vars x;", number, *cells), [0, 12 - number, *range(number + 1, 13)])


if __name__ == "__main__":
    unittest.main()
