"""How calls stand in a list, how answers do, and what is kept."""

import unittest

from heappieces.heaps import answers
from tests.helper import (
    LOST, ON, RUN, TOUCHES, TURN_ROUND, WRITTEN, after, ask, beside, bytes_of, formed, holds, left, load, put_in, renamed,
    swapped)

ASKED = beside(5, 6, 7) + renamed(*swapped((1, 2))) + holds("list(x, 0)") + formed("x!=y:emp") + left("cell x -> any, any")
REFUSED = beside(1) + beside(1, 0, 0) + renamed(1) + holds("?") + formed([256]) + left([32] * 4097)
# Every call there is, those that change what is held among them, with refusals and faults.
EVERY_CALL = (load(TURN_ROUND) + put_in(1, 0, 0, 1, 2, 7, 2, 0, 8) + RUN + after(4) + TOUCHES + LOST + WRITTEN + ASKED
              + REFUSED + load("vars ?") + load([256]) + put_in(4) + after(301) + ON + LOST + ASKED + REFUSED)


class Calls(unittest.TestCase):

    def test_counts_stand_before_the_answers(self):
        self.assertEqual(answers([1]), [1, 0])
        self.assertEqual(answers([3, 1, 4, 300, 2, 0, 3]), [1, -6, 1, 0, 1, -6, 1, 0, 4, 0, 0, 0, 0])
        self.assertEqual(answers([0, 0]), [3, 1, 4, 0])
        self.assertEqual(answers([0, 1, 256, 2, 3, 1, 1, 1]), [1, -1, 1, 0])

    def test_how_the_later_calls_stand_in_the_list(self):
        self.assertEqual(answers([7, 8, 0, 9, 0, 10, 0, 11, 0, 12, 0]),
                         [1, -6, 1, -6, 1, -6, 1, -6, 3, 3, 4, 0, 1, -6])
        self.assertEqual(answers([2, 3, 1, 0, 0, 7, 8, 3, 2, 0, 0, 9, 1, 5, 10, 3, 101, 109, 112, 11, 3, 101, 109, 112,
                                  12, 3, 101, 109, 112, 8, 0, 7]),
                         [1, 0, 7, 0, 0, 0, 1, 1, 0, 0, 1, 1, 1, -12, 1, 0, 4, 0, 101, 109, 112,
                          7, 0, 0, 0, 1, 1, 0, 0, 1, 1, 7, 0, 0, 0, 1, 1, 0, 0])

    def test_later_calls_in_any_order(self):
        got = ask(formed("emp"), left("emp"), ON, put_in(3, 0, 0), holds("emp"), beside(3, 1, 1), beside(4, 1, 1), ON,
                  load("vars x; x = new;"), beside(), holds("emp"), formed("tree(x)"), put_in(0), renamed(*swapped((1, 2))),
                  ON, beside(1, 1, 1), holds("tree(x)"), ON, left("tree(x)"), beside(3, 0, 0), beside(4, 0, 0),
                  load("vars y"), left("tree(x)"), put_in(), ON, holds("tree(x)"))
        self.assertEqual(got, [
            [0] + bytes_of("emp"), [-6], [-6], [0], [0], [-5], [1], [0, 0, 0, 1, 3, 0, 0],
            [0, 1], [-6], [-6], [0] + bytes_of("tree(x)"), [0], [0],
            [0, 0, 1, 1, 1, 1, 0, 0], [-5], [1], [0, 0, 1, 2, 2, 1, 0, 0, 2, 0, 0], [0, 0, 1, 1, 1, 0, 0], [0], [1],
            [1, 4, 6], [0, 0, 1, 1, 1, 0, 0], [-4], [0, 0, 1, 3, 3, 1, 0, 0, 2, 0, 0, 3, 0, 0], [0]])

    def test_any_order_on_one_object(self):
        got = ask(LOST, put_in(2, 3, 4), WRITTEN, LOST, load("vars x; x = new;"), LOST, put_in(1), TOUCHES,
                  load("vars"), RUN, put_in(1, 2), put_in(2, 2, 2, 2), after(0), RUN, TOUCHES, LOST,
                  load("vars a, b;"), RUN, WRITTEN, put_in(8, 9), RUN, after(0), after(-1), load([256]), LOST)
        self.assertEqual(got, [
            [-6], [0], [0], [0, 1, 2], [0, 1], [-6], [0], [0, 1, 3, 1],
            [1, 4, 4], [0, 0, 1, 1, 1, 1, 0, 0], [-4], [0], [0, 2, 0, 2, 1, 2, 2, 2],
            [0, 0, 1, 1, 2, 1, 0, 0, 2, 2, 2], [0, 1, 3, 1], [0, 0],
            [0, 2], [-6], [0] + list(b"vars a, b;\n"), [0], [0, 0, 0, 8, 9, 0], [0, 0, 0, 8, 9, 0], [-7], [-1], [0, 0]])

    def test_forty_calls(self):
        self.assertEqual(ask(*[RUN] * 40), [[-6]] * 40)
        self.assertEqual(len(ask(load("vars x; while x == x { }"), put_in(1), *[RUN] * 38)), 40)

    def test_long_lists(self):
        text = "vars x;" + "x=0;" * 1022
        got = ask(load(text), load(text), load(text), put_in(*[1] * 4000), WRITTEN)
        self.assertEqual(got[:4], [[0, 1], [0, 1], [0, 1], [-4]])
        self.assertEqual(len(got[4]), 1 + 8 + 7 * 1022)

    def test_what_is_handed_in_is_not_changed(self):
        calls = list(EVERY_CALL)
        answers(calls)
        self.assertEqual(calls, EVERY_CALL)

    def test_what_is_handed_in_is_never_changed_for_a_while(self):
        class Watched(list):
            def changed(self, *values):
                raise AssertionError("changed")
            append = extend = insert = pop = remove = clear = sort = reverse = changed
            __setitem__ = __delitem__ = __iadd__ = __imul__ = changed
        self.assertEqual(answers(Watched(EVERY_CALL)), answers(EVERY_CALL))

    def test_second_time_as_the_first(self):
        calls = RUN + ON + holds("emp") + formed("tree(x)") + WRITTEN + EVERY_CALL
        first = answers(calls)
        kept = list(first)
        first.append(5)
        self.assertEqual(answers(WRITTEN + RUN + ON), [1, 0, 1, -6, 1, -6])
        self.assertEqual(answers(calls), kept)

    def test_whole_numbers_in_a_list(self):
        given = answers(EVERY_CALL)
        self.assertIs(type(given), list)
        self.assertEqual({type(number) for number in given}, {int})


if __name__ == "__main__":
    unittest.main()
