"""Point 1: load, its refusals, each kind of first fault with its place, and what is held then."""

import unittest

from tests.helper import LOST, RUN, TOUCHES, WRITTEN, after, ask, bytes_of, last, load, put_in

SIX = "vars a, b, c, d, e, f"
NO_NAMES = "vars new free if else while next data emp cell list tree any and".split()


def nested(level, inside):
    return "vars x; " + "if x == 0 { " * level + inside + " }" * level


class Refusals(unittest.TestCase):

    def test_number_that_is_no_byte(self):
        for wrong in (-1, 256, 10 ** 18, -10 ** 18):
            self.assertEqual(last(load(bytes_of("vars x;") + [wrong])), [-1])
            self.assertEqual(last(load([wrong] + bytes_of("vars x;"))), [-1])

    def test_no_byte_in_a_remark_or_behind_a_fault(self):
        self.assertEqual(last(load(bytes_of("vars x; #") + [256])), [-1])
        self.assertEqual(last(load(bytes_of("? ? ?") + [-1])), [-1])

    def test_every_byte_may_stand_in_a_remark(self):
        text = bytes_of("vars x; #") + [byte for byte in range(256) if byte != 10]
        self.assertEqual(last(load(text)), [0, 1])

    def test_too_long(self):
        self.assertEqual(last(load("vars x;" + " " * 4090)), [-2])
        self.assertEqual(last(load("?" * 5000)), [-2])
        self.assertEqual(last(load("vars x;" + " " * 4089)), [0, 1])

    def test_no_byte_comes_before_too_long(self):
        self.assertEqual(last(load([32] * 4999 + [256])), [-1])
        self.assertEqual(last(load([-1] + [32] * 4999)), [-1])

    def test_refusal_leaves_what_is_held(self):
        for refused in ([300], [32] * 4097):
            before = [load("vars a, b; a = b;"), put_in(0, 5, 2, 3, 4), WRITTEN, RUN]
            got = ask(*before, load(refused), WRITTEN, RUN)
            self.assertEqual(got[5:], got[2:4])


class Good(unittest.TestCase):

    def test_how_many_names(self):
        for count in range(1, 7):
            names = ", ".join("abcdef"[:count])
            self.assertEqual(last(load("vars " + names + ";")), [0, count])

    def test_names(self):
        for name in ("a", "z", "a_", "x9", "abcdefghijkl", "newer", "v", "vars_", "if0", "nextdata", "anda", "a__0"):
            self.assertEqual(last(load("vars " + name + "; " + name + " = " + name + ".next;")), [0, 1])

    def test_what_parts_tokens(self):
        self.assertEqual(last(load("#\n\t\r vars#x;\n x # y\n\t,\r\ny ;x=y . next;x\n.\ndata=0;free#\nx;#end")), [0, 2])
        self.assertEqual(last(load("vars x;if x==0{}else{}while 0!=x{x=new;}")), [0, 1])

    def test_good_text_leaves_no_store(self):
        got = ask(load("vars x;"), put_in(0), LOST, load("vars x;"), RUN, after(0), TOUCHES, LOST)
        self.assertEqual(got[2:], [[0, 0], [0, 1], [-6], [-6], [-6], [-6]])

    def test_levels_up_to_six(self):
        self.assertEqual(last(load(nested(6, "x = 0; free x; x.next = x; x = new;"))), [0, 1])
        # Blocks that stand side by side don't add up, and a second block is no deeper than the first.
        self.assertEqual(last(load("vars x; " + "while x == 0 { } " * 20)), [0, 1])
        self.assertEqual(last(load("vars x; " + "if x == x { } else { " * 6 + "x = 0;" + " }" * 6)), [0, 1])


class Faults(unittest.TestCase):

    def fault(self, kind, marked):
        """The first fault stands where the @ does (which is taken out)."""
        place = marked.index("@")
        text = marked[:place] + marked[place + 1:]
        self.assertEqual(last(load(text)), [1, kind, place], marked)

    def test_1_byte_that_begins_no_token(self):
        self.fault(1, "@?")
        self.fault(1, "@Vars x;")
        self.fault(1, "vars @_x;")
        self.fault(1, "vars x; @X = 0;")
        self.fault(1, "vars x; x = 0@-;")
        self.fault(1, "vars x; x = 0@>;")
        self.fault(1, "vars x; if x @! = x { }")
        self.fault(1, "vars x; if x @!")
        self.fault(1, "vars x;@\x0b")
        self.fault(1, "vars x; # y\n@+")
        self.fault(1, "vars x@\xff;")
        self.fault(1, "vars x@\x00;")
        self.fault(1, "vars x; x = x@/2;")

    def test_1_each_byte(self):
        begins = b"abcdefghijklmnopqrstuvwxyz0123456789()*,.:;={}"
        for byte in range(256):
            got = last(load(bytes_of("vars x; ") + [byte]))
            if byte in b"\t\n\r #":
                self.assertEqual(got, [0, 1])
            elif byte in begins:
                self.assertNotEqual(got[1], 1)
            else:
                self.assertEqual(got, [1, 1, 8])

    def test_2_word_or_number_not_as_told(self):
        self.fault(2, "vars @abcdefghijklm;")
        self.fault(2, "vars x; @abcdefghijklm")
        self.fault(2, "vars x; x = @1;")
        self.fault(2, "vars x; x = @01;")
        self.fault(2, "vars x; x = @10;")
        self.fault(2, "vars x; x = @00;")
        self.fault(2, "vars x; x = @9")
        self.fault(2, "vars x; #\n if @a_b_c_d_e_f_g")

    def test_1_and_2_come_before_3_at_the_same_place(self):
        self.fault(1, "vars x @? y")
        self.fault(2, "vars x @abcdefghijklm y")
        self.fault(2, "vars x @7")
        self.fault(2, "@varsvarsvarsv x;")

    def test_1_and_2_count_when_all_before_may_stand(self):
        self.fault(3, "vars x @y ?")
        self.fault(3, "vars x; x @0 1;")
        self.fault(7, "vars x; @y ?")
        self.fault(6, "vars x, @x?")
        self.fault(6, "vars x, @x 12")

    def test_3_at_the_beginning(self):
        for first in ("x", "0", ";", "if", "->", "=="):
            self.fault(3, "@" + first + " x;")

    def test_3_in_the_names(self):
        for marked in ("vars @;", "vars @, x;", "vars @0;", "vars x @= 0;", "vars x @y;", "vars x,@;", "vars x,@,",
                       "vars x@.next;", "vars x, y@:"):
            self.fault(3, marked)

    def test_3_words_that_are_no_names(self):
        for word in NO_NAMES:
            self.fault(3, "vars @" + word + ";")
            self.fault(3, "vars x, @" + word + ";")
            self.fault(3, "vars x; free @" + word + ";")
            self.fault(3, "vars x; if @" + word + " == x { }")
            self.fault(3, "vars x; while x != @" + word + " { }")
            self.fault(3, "vars x; x.next = @" + word + ";")
            if word != "new":
                self.fault(3, "vars x; x = @" + word + ";")
            if word not in ("if", "while", "free"):
                self.fault(3, "vars x; @" + word + " = 0;")

    def test_3_in_statements(self):
        for marked in ("vars x; @;", "vars x; @0 = x;", "vars x; x @== 0;", "vars x; x @x;", "vars x; x = @= 0;",
                       "vars x; x = 0 @0;", "vars x; x = 0@.next;", "vars x; x = new@.next;", "vars x; x = x @x;",
                       "vars x; x = x.@x;", "vars x; x = x.@0;", "vars x; x = x.next@.next;", "vars x; x.@new = 0;",
                       "vars x; x.next @;", "vars x; x.next @== x;", "vars x; x.next = x@.next;",
                       "vars x; x.data = @new;", "vars x; free @0;", "vars x; free x @x;", "vars x; free x@.next;",
                       "vars x; x = 0@, x = 0;", "vars x; x = 0@:", "vars x; x = 0 @* x;", "vars x; x @-> x;",
                       "vars x; @(x = 0);", "vars x; @vars y;"):
            self.fault(3, marked)

    def test_3_in_blocks(self):
        for marked in ("vars x; @}", "vars x; @{ }", "vars x; @else { }", "vars x; if x @= x { }",
                       "vars x; if @(x == x) { }", "vars x; if x @{ }", "vars x; if x == x @x = 0;",
                       "vars x; if x == x @and x == x { }", "vars x; if x == x@.next { }",
                       "vars x; if x == x { } else @if x == x { }", "vars x; if x == x { } else { } @else { }",
                       "vars x; while x == x { } @else { }", "vars x; if x == x { @else { }",
                       "vars x; if x == x { } @}", "vars x; if x == x { } x = 0; @else { }",
                       "vars x; while x != x { x = 0; } @;", "vars x; if x == x { } else { @{ }"):
            self.fault(3, marked)

    def test_4_at_the_text_length(self):
        whole = ("vars x , y ; x = y ; x = 0 ; x = y . next ; x = new ; x . data = y ; free x ; "
                 "if x == 0 { y = x ; } else { while x != y { } }")
        tokens = whole.split()
        for count in range(len(tokens)):
            text = " ".join(tokens[:count])
            got = last(load(text))
            depth = tokens[:count].count("{") - tokens[:count].count("}")
            if count > 0 and depth == 0 and tokens[count - 1] in (";", "}") and count >= 5:
                self.assertEqual(got, [0, 2], text)
            else:
                self.assertEqual(got, [1, 4, len(text)], text)

    def test_4_behind_blanks_and_remarks(self):
        self.fault(4, "@")
        self.fault(4, "  @")
        self.fault(4, "#@")
        self.fault(4, "vars x # ;@")
        self.fault(4, "vars x; if x == 0 { # }\n \t\r@")
        self.fault(4, "vars@")
        self.fault(4, "vars x; if x == x { } else@")

    def test_5_seventh_name(self):
        for seventh in ("g", "a", ";", "new", "0", "7", "?", "abcdefghijklm", ",", "\xff", "vars", "->"):
            self.fault(5, SIX + ", @" + seventh)
            self.fault(5, SIX + ", # g\n @" + seventh + " ;")
        self.fault(5, SIX + ",@")
        self.fault(5, SIX + ", \n@")
        self.fault(5, SIX + ", # g@")

    def test_5_not_before_the_seventh_name_begins(self):
        self.fault(3, SIX + " @g")
        self.fault(4, SIX + "@")
        self.fault(1, SIX + "@?")
        self.fault(6, "vars a, b, c, d, e, @a, g")
        self.assertEqual(last(load(SIX + ";")), [0, 6])

    def test_5_if_or_while_in_level_six(self):
        for word in ("if", "while"):
            self.fault(5, nested(6, "@" + word + " x == 0 { }"))
            self.fault(5, nested(6, "x = 0; @" + word + " ?"))
            self.fault(5, "vars x; " + "while x == 0 { " * 6 + "@" + word)
            self.fault(5, "vars x; " + "if x == 0 { } else { " * 6 + "@" + word)
            self.assertEqual(last(load(nested(5, word + " x == 0 { }"))), [0, 1])
        self.fault(3, nested(6, "@else { }"))
        self.fault(1, nested(6, "@? if"))
        self.fault(7, nested(6, "@y = 0; if"))
        self.fault(4, "vars x; " + "if x == 0 {" * 6 + "@")

    def test_6_name_told_twice(self):
        self.fault(6, "vars x, @x;")
        self.fault(6, "vars x, y, z, @y, x;")
        self.fault(6, "vars x, @x")
        self.fault(6, "vars ab, a, b, @ab;")

    def test_7_name_not_told(self):
        for marked in ("vars x; @y = 0;", "vars x; x = @y;", "vars x; x = @y.next;", "vars x; @y.next = x;",
                       "vars x; x.data = @y;", "vars x; free @y;", "vars x; if @y == x { }", "vars x; if 0 != @y { }",
                       "vars x; while x == x { @xx = 0; }", "vars xy; @x", "vars x; x = @x_"):
            self.fault(7, marked)

    def test_3_where_no_name_may_stand(self):
        self.fault(3, "vars x; x @y;")
        self.fault(3, "vars x; x = x.@y;")
        self.fault(3, "vars x; if x @y x { }")

    def test_fault_leaves_what_is_held(self):
        for faulty in ("", "?", "vars 12;", "vars q; q = 0; }", "vars q", SIX + ",", "vars q, q;", "vars q; r = q;"):
            before = [load("vars a, b; a = b;"), put_in(0, 5, 2, 3, 4), WRITTEN, RUN, LOST]
            got = ask(*before, load(faulty), WRITTEN, RUN, LOST)
            self.assertEqual(got[5][0], 1)
            self.assertEqual(got[6:], got[2:5])

    def test_fault_at_the_beginning_leaves_the_program_without_names(self):
        self.assertEqual(ask(load("vars q; }"), WRITTEN, RUN, put_in(), RUN),
                         [[1, 3, 8], [0], [-6], [0], [0, 0, 0, 0]])

    def test_place_up_to_4096(self):
        self.assertEqual(last(load("vars x" + " " * 4090)), [1, 4, 4096])
        self.assertEqual(last(load("vars x" + " " * 4089 + "?")), [1, 1, 4095])


if __name__ == "__main__":
    unittest.main()
