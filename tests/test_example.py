"""The example behind the promises, number by number."""

import unittest

from tests.helper import (
    LOST, ON, RUN, TOUCHES, TURN_ROUND, after, ask, beside, bytes_of, formed, holds, last, left, load, put_in, renamed)


class Example(unittest.TestCase):

    def test_list_turned_round(self):
        got = ask(load(TURN_ROUND), put_in(1, 0, 0, 1, 2, 7, 2, 0, 8), RUN, after(2), TOUCHES, LOST,
                  beside(5, 6, 7), renamed(2, 1, 3, 4, 5, 6, 7, 8, 9, 10, 11, 12),
                  holds("list(x, 0)"), holds("cell x -> t, any"), left("y == 0 : cell x -> any, any"),
                  formed("x!=y:tree(x)"), ON, holds("x == 0 : list(y, 0)"))
        self.assertEqual(got, [
            [0, 3],
            [0],
            [0, 0, 11, 0, 2, 0, 2, 1, 0, 7, 2, 1, 8],
            [0, 2, 2, 1, 0, 2, 2, 1, 2, 7, 2, 0, 8],
            [0, 4, 0, 1, 1, 1, 0, 2, 1, 2],
            [0, 0],
            [1],
            [1],
            [1],
            [0],
            [0, 1, 1, 1, 2, 0, 8],
            [0] + bytes_of("x != y : tree(x)"),
            [0, 0, 11, 0, 2, 0, 2, 1, 0, 7, 2, 1, 8],
            [1],
        ])

    def test_read_behind_free(self):
        got = last(load("vars x; free x; x = x.next;"), put_in(1, 1, 0, 0), RUN)
        self.assertEqual(got, [0, 1, 1, 1, 1, 1, 0])


if __name__ == "__main__":
    unittest.main()
