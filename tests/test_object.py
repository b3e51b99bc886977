"""How calls stand in a list, how answers do, and what is kept."""

import unittest

from heappieces.heaps import answers
from tests.helper import LOST, RUN, TOUCHES, TURN_ROUND, WRITTEN, after, ask, load, put_in


class Calls(unittest.TestCase):

    def test_counts_stand_before_the_answers(self):
        self.assertEqual(answers([1]), [1, 0])
        self.assertEqual(answers([3, 1, 4, 300, 2, 0, 3]), [1, -6, 1, 0, 1, -6, 1, 0, 4, 0, 0, 0, 0])
        self.assertEqual(answers([0, 0]), [3, 1, 4, 0])
        self.assertEqual(answers([0, 1, 256, 2, 3, 1, 1, 1]), [1, -1, 1, 0])

    def test_any_order_on_one_object(self):
        got = ask(LOST, put_in(2, 3, 4), WRITTEN, LOST, load("vars x; x = new;"), LOST, put_in(1), TOUCHES,
                  load("vars"), RUN, put_in(1, 2), put_in(2, 2, 2, 2), after(0), RUN, TOUCHES, LOST,
                  load("vars a, b;"), RUN, WRITTEN, put_in(8, 9), RUN, after(0), after(-1), load([256]), LOST)
        self.assertEqual(got, [
            [-6], [0], [0], [0, 1, 2], [0, 1], [-6], [0], [0, 1, 3, 1],
            [1, 4, 4], [0, 0, 1, 1, 1, 1, 0, 0], [-4], [0], [0, 2, 0, 2, 1, 2, 2, 2],
            [0, 0, 1, 1, 2, 1, 0, 0, 2, 2, 2], [0, 1, 3, 1], [0, 0],
            [0, 2], [-6], [0] + list(b"vars a, b;\n"), [0], [0, 0, 0, 8, 9, 0], [0, 0, 0, 8, 9, 0], [-7], [-1], [0, 0]])

    def test_forty_calls(self):
        self.assertEqual(ask(*[RUN] * 40), [[-6]] * 40)
        self.assertEqual(len(ask(load("vars x; while x == x { }"), put_in(1), *[RUN] * 38)), 40)

    def test_long_lists(self):
        text = "vars x;" + "x=0;" * 1022
        got = ask(load(text), load(text), load(text), put_in(*[1] * 4000), WRITTEN)
        self.assertEqual(got[:4], [[0, 1], [0, 1], [0, 1], [-4]])
        self.assertEqual(len(got[4]), 1 + 8 + 7 * 1022)

    def test_what_is_handed_in_is_not_changed(self):
        calls = (load(TURN_ROUND) + put_in(1, 0, 0, 1, 2, 7, 2, 0, 8) + RUN + after(4) + TOUCHES + LOST + WRITTEN
                 + load("vars ?") + load([256]) + put_in(4))
        before = list(calls)
        answers(calls)
        self.assertEqual(calls, before)

    def test_what_is_handed_in_is_never_changed_for_a_while(self):
        class Watched(list):
            def changed(self, *values):
                raise AssertionError("changed")
            append = extend = insert = pop = remove = clear = sort = reverse = changed
            __setitem__ = __delitem__ = __iadd__ = __imul__ = changed
        calls = load(TURN_ROUND) + put_in(1, 0, 0, 1, 2, 7, 2, 0, 8) + RUN + after(4) + TOUCHES + LOST + WRITTEN
        self.assertEqual(answers(Watched(calls)), answers(calls))

    def test_second_time_as_the_first(self):
        calls = RUN + WRITTEN + load(TURN_ROUND) + put_in(1, 0, 0, 1, 2, 7, 2, 0, 8) + RUN + TOUCHES + LOST
        first = answers(calls)
        kept = list(first)
        first.append(5)
        self.assertEqual(answers(WRITTEN + RUN), [1, 0, 1, -6])
        self.assertEqual(answers(calls), kept)

    def test_whole_numbers_in_a_list(self):
        given = answers(load(TURN_ROUND) + put_in(1, 0, 0, 1, 2, 7, 2, 0, 8) + RUN + TOUCHES + LOST + load("?") + WRITTEN)
        self.assertIs(type(given), list)
        self.assertEqual({type(number) for number in given}, {int})


if __name__ == "__main__":
    unittest.main()
