"""Points 3 and 4: renamed, its refusal, and the rows for which a run goes alike."""

import unittest

from tests.helper import FOR_EVER, FULL, RUN, TURN_ROUND, WRITTEN, after, ask, last, load, put_in, renamed, swapped

SAME = list(range(1, 13))
TURNED = SAME[::-1]
MOVED = SAME[1:] + SAME[:1]

NO_ROWS = (
    [], SAME[:11], SAME[1:], SAME + [13], SAME + [1], SAME + SAME, [0] + SAME, SAME[:11] + [11], [2] + SAME[1:],
    SAME[:11] + [13], [0] + SAME[1:], SAME[:11] + [0], [-1] + SAME[1:], SAME[:11] + [10 ** 18], [-10 ** 18] + SAME[1:],
    [12] * 12, [number - 1 for number in SAME], [number + 1 for number in SAME], [1] * 5000, SAME[:6] * 2,
)


def alike(text, numbers, row):
    return last(load(text), put_in(*numbers), renamed(*row))


class Refusals(unittest.TestCase):

    def test_no_store(self):
        self.assertEqual(ask(renamed(*SAME), load("vars x;"), renamed(*SAME)), [[-6], [0, 1], [-6]])

    def test_no_store_comes_first(self):
        for row in NO_ROWS:
            self.assertEqual(last(load("vars x;"), renamed(*row)), [-6], row)

    def test_not_the_numbers_1_to_12_each_once(self):
        for row in NO_ROWS:
            self.assertEqual(ask(load("vars x;"), put_in(4), renamed(*row), RUN)[2:], [[-12], [0, 0, 0, 4, 0]], row)


class Alike(unittest.TestCase):

    def test_row_that_changes_nothing(self):
        for text, numbers in (("vars x; x = new;", (0,)), ("vars x; free x;", (0,)), (FOR_EVER, (7, 7, 7, 7)),
                              ("vars x; x = new;", [0] + FULL), (TURN_ROUND, (1, 0, 0, 1, 2, 7, 2, 0, 8))):
            self.assertEqual(alike(text, numbers, SAME), [1], text)

    def test_run_without_new(self):
        for row in (TURNED, MOVED, swapped((1, 2)), swapped((1, 7), (2, 8))):
            self.assertEqual(alike(TURN_ROUND, (1, 0, 0, 1, 2, 7, 2, 0, 8), row), [1], row)
            self.assertEqual(alike("vars x, y; x = y; y = x.data; free y;", (0, 3, 3, 0, 4, 4, 5, 13), row), [1], row)
            self.assertEqual(last(put_in(*FULL), renamed(*row)), [1])

    def test_run_with_new(self):
        text = "vars x; x = new;"
        self.assertEqual(alike(text, (0,), swapped((1, 2))), [0])
        self.assertEqual(alike(text, (0,), swapped((2, 3))), [1])
        self.assertEqual(alike(text, (0,), MOVED), [0])
        # 1 and 2 are taken, whichever is which; the new one is at 3.
        self.assertEqual(alike(text, (1, 1, 0, 0, 2, 0, 0), swapped((1, 2), (4, 5))), [1])
        self.assertEqual(alike(text, (1, 1, 0, 0, 2, 0, 0), swapped((1, 4))), [0])
        # The one place that is left is at 12, and at 1.
        self.assertEqual(alike(text, [0] + FULL[:33], TURNED), [1])
        self.assertEqual(alike(text, [0] + FULL[:33], MOVED), [1])
        # Of the two that are left, 11 is the least; 12 and 2, where it goes, aren't.
        self.assertEqual(alike(text, [0] + FULL[:30], MOVED), [0])
        self.assertEqual(alike(text, [0] + FULL[:30], TURNED), [0])

    def test_new_address_that_is_forgotten(self):
        self.assertEqual(alike("vars x; x = new; free x; x = 0;", (0,), TURNED), [1])
        self.assertEqual(alike("vars x; x = new; free x;", (0,), TURNED), [0])
        self.assertEqual(alike("vars x; x = new; x = 0;", (0,), TURNED), [0])

    def test_new_address_in_a_field(self):
        for field in ("next", "data"):
            text = "vars x, y; y = new; x." + field + " = y; free y; y = 0;"
            self.assertEqual(alike(text, (6, 0, 6, 0, 0), swapped((1, 2))), [0])
            self.assertEqual(alike(text, (6, 0, 6, 0, 0), swapped((6, 7))), [1])

    def test_no_room(self):
        self.assertEqual(alike("vars x; x = new;", [3] + FULL, TURNED), [1])
        self.assertEqual(alike("vars x; x = 0; x = new;", [3] + FULL, MOVED), [1])

    def test_numbers_that_stay(self):
        # 0, 13 and 99 are no addresses: names and fields keep them.
        text = "vars x, y, z; if x == 0 { y = z.next; } else { y = 0; }"
        self.assertEqual(alike(text, (0, 0, 4, 4, 13, 99), MOVED), [1])
        self.assertEqual(alike("vars x, y; x = y.next; y = y.data;", (99, 12, 12, 0, 13), MOVED), [1])
        self.assertEqual(alike("vars x; while x != 0 { x = x.next; }", (12, 1, 0, 13, 12, 1, 0), MOVED), [1])

    def test_fields_are_renamed(self):
        # Both fields lead on: the run comes to the same cells by their other addresses.
        text = "vars x, y; y = x.next; y = y.data; y.next = x; x = y.data;"
        numbers = (1, 0, 1, 2, 5, 2, 6, 3, 3, 12, 4)
        for row in (TURNED, MOVED, swapped((1, 3))):
            self.assertEqual(alike(text, numbers, row), [1])

    def test_number_that_is_made_equal(self):
        # The new cell's address is compared with a number that is renamed.
        text = "vars x, y; x = new; free x; if x == y { x = 0; } else { x = 0; %s }"
        self.assertEqual(alike(text % "x = 0;", (0, 1), swapped((1, 2))), [0])
        self.assertEqual(alike(text % "", (0, 1), swapped((1, 2))), [1])
        self.assertEqual(alike(text % "x = 0;", (0, 1), swapped((3, 2))), [1])

    def test_gone_wrong_at_an_address_that_is_renamed(self):
        for text in ("vars x; x = x.next;", "vars x; x.data = 0;", "vars x; free x;"):
            for row in (TURNED, MOVED, swapped((5, 6))):
                self.assertEqual(alike(text, (5,), row), [1], text)
        # The read goes wrong at 1 both times; it would have to at 2.
        text = "vars x, y; y = new; free y; x = y; y = 0; x = x.next;"
        self.assertEqual(alike(text, (0, 0), swapped((1, 2))), [0])
        self.assertEqual(alike(text, (0, 0), swapped((3, 2))), [1])

    def test_wrong_address_alone_makes_the_difference(self):
        # The same steps, and a store without any address; only where the free goes wrong is another one.
        text = "vars x, t, y, z; x = new; free x; if x == t { x = 0; free y; } else { x = 0; free z; }"
        self.assertEqual(alike(text, (0, 1, 13, 14), swapped((1, 2))), [0])
        self.assertEqual(alike(text, (0, 1, 13, 13), swapped((1, 2))), [1])
        self.assertEqual(alike(text, (0, 1, 0, 13), swapped((1, 2))), [0])
        text = "vars x, t, y; x = new; free x; if x == t { x = 0; free y; } else { x = 0; y = y.next; }"
        self.assertEqual(alike(text, (0, 1, 13), swapped((1, 2))), [0])
        self.assertEqual(alike(text, (0, 1, 13), swapped((3, 2))), [1])

    def test_gone_wrong_at_0_and_above_12(self):
        for number in (0, 13, 99):
            for row in (TURNED, MOVED):
                self.assertEqual(alike("vars x, y; x = y; free x;", (1, number), row), [1], number)
                self.assertEqual(alike("vars x; x = x.next; x = x.data;", (4, 4, number, 1), row), [1], number)

    def test_cut_off(self):
        self.assertEqual(alike(FOR_EVER, (4, 4, 4, 12, 5, 12, 0), MOVED), [1])
        for_ever = "vars x, y; x = new; while y == y { y = y; }"
        self.assertEqual(alike(for_ever, (0, 3), swapped((1, 2))), [0])
        self.assertEqual(alike(for_ever, (0, 3), swapped((3, 2))), [1])

    def test_cut_off_or_over_behind_as_many_steps(self):
        text = ("vars x, t, y; x = new; free x; while x == t { x = y; } x = y;"
                + "y = y;" * 294 + " if x == y { x = y; } else { x = 0; }")
        self.assertEqual(last(load(text), put_in(0, 2, 20), RUN)[:3], [0, 0, 300])
        self.assertEqual(alike(text, (0, 2, 20), swapped((1, 2))), [0])
        self.assertEqual(alike(text, (0, 2, 20), swapped((1, 2), (3, 4))), [0])
        self.assertEqual(alike(text, (0, 2, 20), swapped((3, 4))), [1])

    def test_renamed_leaves_what_is_held(self):
        got = ask(load("vars x; x = new;"), put_in(4, 2, 3, 4), WRITTEN, RUN, after(0), renamed(*TURNED), renamed(*SAME),
                  renamed(1), WRITTEN, RUN, after(0))
        self.assertEqual(got[5:8], [[0], [1], [-12]])
        self.assertEqual(got[8:], got[2:5])


if __name__ == "__main__":
    unittest.main()
