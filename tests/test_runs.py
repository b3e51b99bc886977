"""Points 3 and 4: run, after and touches."""

import unittest

from tests.helper import FOR_EVER, FULL, RUN, TOUCHES, TURN_ROUND, WRITTEN, after, ask, last, load, put_in


def run(text, *numbers):
    return last(load(text), put_in(*numbers), RUN)


def touches(text, *numbers):
    return last(load(text), put_in(*numbers), TOUCHES)


class Refusals(unittest.TestCase):

    def test_no_store(self):
        self.assertEqual(ask(RUN, after(1), TOUCHES), [[-6]] * 3)
        self.assertEqual(ask(load("vars x;"), RUN, after(1), TOUCHES)[1:], [[-6]] * 3)

    def test_no_store_comes_before_the_number(self):
        for most in (-1, 301, 10 ** 18):
            self.assertEqual(last(after(most)), [-6])
            self.assertEqual(last(load("vars x;"), after(most)), [-6])

    def test_number_out_of_its_range(self):
        for most in (-1, 301, 10 ** 18, -10 ** 18):
            self.assertEqual(ask(load(FOR_EVER), put_in(5), after(most), RUN)[2:], [[-7], [0, 2, 300, 5, 0]])
            self.assertEqual(ask(put_in(), after(most)), [[0], [-7]])

    def test_edges_of_the_number(self):
        self.assertEqual(last(load(FOR_EVER), put_in(5), after(0)), [0, 2, 0, 5, 0])
        self.assertEqual(last(load(FOR_EVER), put_in(5), after(300)), [0, 2, 300, 5, 0])


class Statements(unittest.TestCase):

    def test_assign(self):
        self.assertEqual(run("vars x, y; x = y;", 3, 4), [0, 0, 1, 4, 4, 0])
        self.assertEqual(run("vars x, y; x = 0;", 3, 4), [0, 0, 1, 0, 4, 0])
        self.assertEqual(run("vars x, y; x = x;", 3, 4), [0, 0, 1, 3, 4, 0])

    def test_read(self):
        self.assertEqual(run("vars x, y; x = y.next;", 0, 2, 2, 55, 66), [0, 0, 1, 55, 2, 1, 2, 55, 66])
        self.assertEqual(run("vars x, y; x = y.data;", 0, 2, 2, 55, 66), [0, 0, 1, 66, 2, 1, 2, 55, 66])
        self.assertEqual(run("vars x; x = x.next;", 12, 12, 99, 0), [0, 0, 1, 99, 1, 12, 99, 0])

    def test_write(self):
        self.assertEqual(run("vars x, y; x.next = y;", 2, 9, 2, 55, 66), [0, 0, 1, 2, 9, 1, 2, 9, 66])
        self.assertEqual(run("vars x, y; x.data = y;", 2, 9, 2, 55, 66), [0, 0, 1, 2, 9, 1, 2, 55, 9])
        self.assertEqual(run("vars x; x.next = 0; x.data = x;", 2, 2, 55, 66), [0, 0, 2, 2, 1, 2, 0, 2])

    def test_new_takes_the_least_address(self):
        self.assertEqual(run("vars x; x = new;", 50), [0, 0, 1, 1, 1, 1, 0, 0])
        self.assertEqual(run("vars x; x = new;", 0, 1, 8, 9, 3, 8, 9), [0, 0, 1, 2, 3, 1, 8, 9, 2, 0, 0, 3, 8, 9])
        self.assertEqual(run("vars x; x = new;", 0, *FULL[:33]), [0, 0, 1, 12, 12] + FULL)
        self.assertEqual(run("vars x, y; x.data = x; free x; y = new;", 2, 0, 1, 5, 5, 2, 6, 6),
                         [0, 0, 3, 2, 2, 2, 1, 5, 5, 2, 0, 0])

    def test_free(self):
        self.assertEqual(run("vars x; free x;", 2, 1, 5, 5, 2, 6, 6), [0, 0, 1, 2, 1, 1, 5, 5])

    def test_if(self):
        text = "vars x, y; if x == y { x = 0; } else { y = 0; }"
        self.assertEqual(run(text, 4, 4), [0, 0, 2, 0, 4, 0])
        self.assertEqual(run(text, 4, 5), [0, 0, 2, 4, 0, 0])
        self.assertEqual(run(text.replace("==", "!="), 4, 4), [0, 0, 2, 4, 0, 0])
        self.assertEqual(run(text.replace("==", "!="), 4, 5), [0, 0, 2, 0, 5, 0])

    def test_if_without_a_second_block(self):
        for text in ("vars x, y; if x == 0 { y = x; } y = y;", "vars x, y; if x == 0 { y = x; } else { } y = y;"):
            self.assertEqual(run(text, 0, 7), [0, 0, 3, 0, 0, 0])
            self.assertEqual(run(text, 1, 7), [0, 0, 2, 1, 7, 0])

    def test_if_with_an_empty_first_block(self):
        text = "vars x, y; if x == 0 { } else { y = x; }"
        self.assertEqual(run(text, 0, 7), [0, 0, 1, 0, 7, 0])
        self.assertEqual(run(text, 1, 7), [0, 0, 2, 1, 1, 0])

    def test_while(self):
        self.assertEqual(run("vars x; while x != 0 { x = x.next; }", 1, 1, 2, 0, 2, 0, 0),
                         [0, 0, 5, 0, 2, 1, 2, 0, 2, 0, 0])
        self.assertEqual(run("vars x; while x == x { x = x.next; }", 1, 1, 2, 0, 2, 0, 0),
                         [0, 1, 1, 0, 5, 0, 2, 1, 2, 0, 2, 0, 0])
        self.assertEqual(run("vars x; while x != x { x = 0; }", 1), [0, 0, 1, 1, 0])

    def test_blocks_within_one_another(self):
        text = """vars x, y, z;
            while x != 0 {
              if y == z { z = 0; } else { if z == 0 { y = 0; } else { x = 0; } }
              if x != 0 { x = x.next; }
            }"""
        cells = (1, 2, 0, 2, 3, 0, 3, 0, 0)
        # 1: z = 0, x = 2; 2: y = 0, x = 3; 3: y == z, x = 0.
        self.assertEqual(run(text, 1, 7, 7, *cells), [0, 0, 17, 0, 0, 0, 3, *cells])
        # 1: x = 0 at once, and nothing is read.
        self.assertEqual(run(text, 1, 7, 8, *cells), [0, 0, 6, 0, 7, 8, 3, *cells])

    def test_run_changes_nothing_that_is_held(self):
        text = "vars x; x.next = x; x = new; free x;"
        got = ask(load(text), put_in(1, 1, 0, 0), RUN, after(2), TOUCHES, RUN, after(0), WRITTEN)
        self.assertEqual(got[2], got[5])
        self.assertEqual(got[3], [0, 2, 2, 2, 2, 1, 1, 0, 2, 0, 0])
        self.assertEqual(got[6], [0, 2, 0, 1, 1, 1, 0, 0])


class GoneWrong(unittest.TestCase):

    def test_read(self):
        for field in ("next", "data"):
            for number in (0, 2, 12, 13, 99):
                self.assertEqual(run("vars x, y; x = x; y = x." + field + "; x = 0;", number, 7, 1, 5, 6),
                                 [0, 1, 1, number, 1, number, 7, 1, 1, 5, 6])

    def test_write(self):
        for field in ("next", "data"):
            for number in (0, 2, 12, 13, 99):
                self.assertEqual(run("vars x, y; y = 0; x." + field + " = y; x = 0;", number, 7, 1, 5, 6),
                                 [0, 1, 2, number, 1, number, 0, 1, 1, 5, 6])

    def test_free(self):
        for number in (0, 2, 12, 13, 99):
            self.assertEqual(run("vars x, y; free x; x = 0;", number, 7, 1, 5, 6),
                             [0, 1, 3, number, 0, number, 7, 1, 1, 5, 6])

    def test_freed_twice(self):
        self.assertEqual(run("vars x; free x; free x;", 1, 1, 5, 6), [0, 1, 3, 1, 1, 1, 0])

    def test_no_room(self):
        self.assertEqual(run("vars x; x = new; x = 0;", 5, *FULL), [0, 1, 4, 0, 0, 5, 12] + FULL)
        got = run("vars x; while 0 == 0 { x = new; }", 0)
        self.assertEqual(got, [0, 1, 4, 0, 25, 12, 12] + FULL)

    def test_in_blocks(self):
        self.assertEqual(run("vars x; if x == 0 { x = x.next; x = new; } else { x = 0; }", 0), [0, 1, 1, 0, 1, 0, 0])
        self.assertEqual(run("vars x; while x != 0 { free x; x = x.next; }", 1, 1, 0, 0), [0, 1, 1, 1, 2, 1, 0])


class CutOff(unittest.TestCase):

    def test_at_300_steps(self):
        self.assertEqual(run(FOR_EVER, 5), [0, 2, 300, 5, 0])
        self.assertEqual(run("vars x, y; x.data = 0; while x == x { y = x; x = y; }", 1, 0, 1, 2, 2),
                         [0, 2, 300, 1, 1, 1, 1, 2, 0])

    def test_over_with_just_300_steps(self):
        self.assertEqual(run("vars x;" + "x = 0;" * 300, 5), [0, 0, 300, 0, 0])
        self.assertEqual(run("vars x;" + "x = 0;" * 299 + "if x == x { } else { x = new; }", 5), [0, 0, 300, 0, 0])
        self.assertEqual(run("vars x;" + "x = 0;" * 299 + "while x != x { }", 5), [0, 0, 300, 0, 0])
        self.assertEqual(run("vars x;" + "x = 0;" * 301, 5), [0, 2, 300, 0, 0])

    def test_while_is_asked_again(self):
        self.assertEqual(run("vars x;" + "x = 0;" * 298 + "while x == 0 { x = new; }", 5), [0, 2, 300, 1, 1, 1, 0, 0])
        self.assertEqual(run("vars x;" + "x = 0;" * 297 + "while x == 0 { x = new; }", 5), [0, 0, 300, 1, 1, 1, 0, 0])

    def test_where_the_next_step_would_go_wrong(self):
        self.assertEqual(run("vars x;" + "x = 0;" * 300 + "free x;", 5), [0, 2, 300, 0, 0])
        self.assertEqual(run("vars x;" + "x = 0;" * 299 + "free x;", 5), [0, 1, 3, 0, 299, 0, 0])

    def test_each_number_of_steps(self):
        stores = [
            [1, 0, 0, 2, 1, 2, 7, 2, 0, 8], [1, 0, 0, 2, 1, 2, 7, 2, 0, 8], [1, 0, 2, 2, 1, 2, 7, 2, 0, 8],
            [1, 0, 2, 2, 1, 0, 7, 2, 0, 8], [1, 1, 2, 2, 1, 0, 7, 2, 0, 8], [2, 1, 2, 2, 1, 0, 7, 2, 0, 8],
            [2, 1, 2, 2, 1, 0, 7, 2, 0, 8], [2, 1, 0, 2, 1, 0, 7, 2, 0, 8], [2, 1, 0, 2, 1, 0, 7, 2, 1, 8],
            [2, 2, 0, 2, 1, 0, 7, 2, 1, 8], [0, 2, 0, 2, 1, 0, 7, 2, 1, 8], [0, 2, 0, 2, 1, 0, 7, 2, 1, 8],
        ]
        for most in range(12):
            got = last(load(TURN_ROUND), put_in(1, 0, 0, 1, 2, 7, 2, 0, 8), after(most))
            end = 0 if most == 11 else 2
            self.assertEqual(got, [0, end, most] + stores[most])
        for most in (12, 13, 300):
            got = last(load(TURN_ROUND), put_in(1, 0, 0, 1, 2, 7, 2, 0, 8), after(most))
            self.assertEqual(got, [0, 0, 11] + stores[11])

    def test_after_where_a_step_goes_wrong(self):
        calls = load("vars x; x = 0; free x;"), put_in(5)
        self.assertEqual(ask(*calls, after(0), after(1), after(2), after(300))[2:], [
            [0, 2, 0, 5, 0], [0, 2, 1, 0, 0], [0, 1, 3, 0, 1, 0, 0], [0, 1, 3, 0, 1, 0, 0]])
        self.assertEqual(last(load("vars x; free x;"), put_in(5), after(0)), [0, 2, 0, 5, 0])

    def test_nothing_to_do(self):
        for most in (0, 1, 300):
            self.assertEqual(last(load("vars x;"), put_in(5), after(most)), [0, 0, 0, 5, 0])
            self.assertEqual(last(put_in(1, 2, 3), after(most)), [0, 0, 0, 1, 1, 2, 3])

    def test_ends_of_blocks_are_nothing_that_is_left(self):
        text = "vars x; if x == 0 { if x == 0 { x = x; } else { x = new; } } else { x = new; }"
        self.assertEqual(last(load(text), put_in(0), after(3)), [0, 0, 3, 0, 0])
        self.assertEqual(last(load(text), put_in(0), after(2)), [0, 2, 2, 0, 0])


class Touches(unittest.TestCase):

    def test_nothing_touched(self):
        self.assertEqual(last(put_in(1, 2, 3), TOUCHES), [0, 0])
        self.assertEqual(touches("vars x; x = x; if x == 0 { x = 0; } while x == x { }", 1, 1, 2, 3), [0, 0])

    def test_how_each_statement_touches(self):
        text = "vars x, y; y = x.next; y = x.data; x.next = y; x.data = 0; y = new; free x; y.next = x;"
        self.assertEqual(touches(text, 3, 0, 1, 9, 9, 3, 5, 6),
                         [0, 7, 0, 3, 0, 3, 1, 3, 1, 3, 3, 2, 2, 3, 1, 2])

    def test_what_is_written_is_not_touched_by_its_number(self):
        self.assertEqual(touches("vars x, y; x.next = y;", 1, 2, 1, 0, 0, 2, 0, 0), [0, 1, 1, 1])

    def test_step_that_goes_wrong_touches_too(self):
        for number in (0, 4, 12, 13, 99):
            for statement, how in (("x = x.next;", 0), ("x = x.data;", 0), ("x.next = 0;", 1), ("x.data = x;", 1),
                                   ("free x;", 2)):
                self.assertEqual(touches("vars x, y; y = new;" + statement + "y = new;", number, 0),
                                 [0, 2, 3, 1, how, number])

    def test_no_room_touches_nothing(self):
        self.assertEqual(touches("vars x; x = new;", 5, *FULL), [0, 0])
        self.assertEqual(touches("vars x; while 0 == 0 { x = new; }", 5, *FULL[:30]), [0, 2, 3, 11, 3, 12])

    def test_of_the_first_300_steps(self):
        got = touches("vars x; while x == x { x = x.next; }", 1, 1, 2, 0, 2, 1, 0)
        self.assertEqual(got, [0, 150] + [0, 1, 0, 2] * 75)
        got = touches("vars x;" + "x = x;" * 299 + "x = new; x = new;", 1)
        self.assertEqual(got, [0, 1, 3, 1])
        self.assertEqual(touches("vars x;" + "x = x;" * 300 + "free x;", 0), [0, 0])


if __name__ == "__main__":
    unittest.main()
