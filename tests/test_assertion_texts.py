"""Point 5: the texts of assertions, their refusals, each kind of first fault with its place, the one form."""

import unittest

from tests.helper import RUN, WRITTEN, ask, bytes_of, formed, holds, last, left, load, put_in

PROGRAM = load("vars x, y, long_name_12;")
STORE = put_in(0, 0, 0)
NO_NAMES = "vars new free if else while next data emp cell list tree any and".split()
SIX_CONDITIONS = " and ".join(["x == y"] * 6)
SIX_PIECES = " * ".join(["tree(x)", "list(x, y)", "cell x -> any, any"] * 2)
WHATEVER = ("x", "z", "0", "7", "?", "_", "!", "-", "\xff", "abcdefghijklm", "emp", "tree", "cell", "list", "and", "any",
            "*", ":", ",", "->", "==", ")", "new", "vars")


class Refusals(unittest.TestCase):

    def refused(self, text, refusal):
        for call in (holds, formed, left):
            self.assertEqual(last(PROGRAM, STORE, call(text)), [refusal])

    def test_number_that_is_no_byte(self):
        for wrong in (-1, 256, 10 ** 18, -10 ** 18):
            self.refused(bytes_of("emp") + [wrong], -1)
            self.refused([wrong] + bytes_of("emp"), -1)
            self.refused([wrong], -1)

    def test_no_byte_in_a_remark_or_behind_a_fault(self):
        self.refused(bytes_of("emp #") + [256], -1)
        self.refused(bytes_of("? ? ?") + [-1], -1)

    def test_too_long(self):
        self.refused("emp" + " " * 4094, -2)
        self.refused("?" * 5000, -2)

    def test_longest_text(self):
        got = ask(PROGRAM, STORE, *[call("emp" + " " * 4093) for call in (holds, formed, left)])
        self.assertEqual(got[2:], [[1], [0] + bytes_of("emp"), [0, 0, 0, 0]])

    def test_no_byte_comes_before_too_long(self):
        self.refused([32] * 4999 + [256], -1)
        self.refused([-1] + [32] * 4999, -1)
        self.refused([256] * 5000, -1)

    def test_form_without_a_store(self):
        self.assertEqual(ask(formed("emp"), formed("x == 0 : emp"), formed([256]), formed([32] * 4097), formed("")),
                         [[0] + bytes_of("emp"), [3, 7, 0], [-1], [-2], [3, 4, 0]])
        self.assertEqual(ask(PROGRAM, formed("tree(x)"), RUN), [[0, 3], [0] + bytes_of("tree(x)"), [-6]])

    def test_refusals_and_faults_leave_what_is_held(self):
        for text in ([256], [32] * 4097, "", "?", "7", "x", "z == 0 : emp", SIX_PIECES + " *"):
            got = ask(PROGRAM, put_in(4, 5, 6, 7, 8, 9), WRITTEN, RUN, holds(text), formed(text), left(text), WRITTEN, RUN)
            self.assertEqual(got[4:6], [got[6]] * 2)
            self.assertEqual(got[7:], got[2:4])


class Faults(unittest.TestCase):

    def fault(self, kind, marked):
        """The first fault stands where the @ does (which is taken out)."""
        place = marked.index("@")
        text = marked[:place] + marked[place + 1:]
        got = ask(PROGRAM, STORE, holds(text), formed(text), left(text))
        self.assertEqual(got[2:], [[3, kind, place]] * 3, marked)

    def good(self, text):
        got = ask(PROGRAM, STORE, holds(text), formed(text), left(text))
        self.assertEqual([len(got[2]), got[3][0], got[4][0]], [1, 0, 0], text)

    def test_1_byte_that_begins_no_token(self):
        for marked in ("@?", "@Emp", "emp @?", "emp@\x0b", "x @! = y : emp", "x @! y : emp", "cell x @- > y, y",
                       "cell x @>", "tree(@-x)", "tree(@_)", "tree(x)@+", "tree(x) * @/", "x == y @& x == y : emp",
                       "# x\n@\xff", "@\x00", "x == y and @\x80", "list(x@|y)", "cell x -> @[any, any"):
            self.fault(1, marked)

    def test_1_each_byte(self):
        begins = b"abcdefghijklmnopqrstuvwxyz0123456789()*,.:;={}"
        for byte in range(256):
            got = last(PROGRAM, formed(bytes_of("emp ") + [byte]))
            if byte in b"\t\n\r #":
                self.assertEqual(got, [0] + bytes_of("emp"))
            else:
                self.assertEqual(got, [3, 2 if byte in b"123456789" else 3 if byte in begins else 1, 4])

    def test_2_word_or_number_not_as_told(self):
        for marked in ("@abcdefghijklm", "@1", "@00 == x : emp", "x == @10 : emp", "tree(@01)", "emp @abcdefghijklm",
                       "emp @5", "cell @12", "cell x -> @1, any", "cell x -> any, @1", "list(x, @anyanyanyanya)",
                       "x == y @andandandanda", "x == y : @empempempempe", "# 1\n@7", "tree(x @99)"):
            self.fault(2, marked)

    def test_1_and_2_count_when_all_before_may_stand(self):
        self.fault(3, "emp @x ?")
        self.fault(3, "x @x 7")
        self.fault(7, "@z ?")
        self.fault(7, "tree(@z 7")
        self.fault(3, "tree(x) @y abcdefghijklm")

    def test_3_at_the_beginning(self):
        for first in ("(", ")", "*", ",", ".", ":", ";", "=", "{", "}", "==", "!=", "->"):
            self.fault(3, "@" + first + " emp")
        for word in NO_NAMES:
            if word not in ("emp", "cell", "list", "tree"):
                self.fault(3, "@" + word + " == x : emp")

    def test_3_words_that_are_no_names(self):
        for word in NO_NAMES:
            for ahead in ("x == ", "x != ", "x == y and ", "cell ", "list(", "list(x, ", "tree("):
                self.fault(3, ahead + "@" + word)
            if word != "any":
                self.fault(3, "cell x -> @" + word)
                self.fault(3, "cell x -> any, @" + word)
            if word not in ("emp", "cell", "list", "tree"):
                self.fault(3, "x == y : @" + word)
            if word not in ("cell", "list", "tree"):
                self.fault(3, "tree(x) * @" + word)
            self.fault(3, "emp @" + word)
            self.fault(3, "tree(x) @" + word)

    def test_3_in_plain_parts(self):
        for marked in ("x @y", "x @= y : emp", "x @-> y : emp", "x == @== y", "x == y @== x", "x == y @, x == y : emp",
                       "x == y @* tree(x)", "x == y @emp", "x == y @tree(x)", "x == y and @emp", "x == y and @: emp",
                       "x == y : @: emp", "x == y : @x == y : emp", "x == y and x == y @; emp", "@(x == y) : emp",
                       "x@.next == y : emp", "0 @0", "x == 0 @0", "x == y : @0", "x == y : @*", "x @: emp", "x @and"):
            self.fault(3, marked)

    def test_3_in_pieces(self):
        for marked in ("cell@(x) -> y, y", "cell x @== y", "cell x @, y", "cell x -> y @y", "cell x -> y@; y",
                       "cell x -> y, y @, y", "cell x -> y, y@.", "cell x -> @-> y", "cell x -> @(y, y)",
                       "list @x", "list(@)", "list(x@)", "list(x @y)", "list(x, @)", "list(x, y @, y)", "list(x, y@}",
                       "list(@any, x)", "list(x, @any)", "tree(@any)", "cell @any -> x, x", "tree @x", "tree(@)",
                       "tree(x @, y)", "tree(x@.next)", "tree(@tree(x))", "tree(x)@)", "@(tree(x))"):
            self.fault(3, marked)

    def test_3_behind_pieces(self):
        for marked in ("emp @*", "emp @* tree(x)", "emp @: emp", "emp @emp", "emp @and x == y", "tree(x) @tree(x)",
                       "tree(x) * @emp", "tree(x) * @* tree(x)", "tree(x) * @x == y : emp", "tree(x) @and tree(x)",
                       "tree(x) @: emp", "tree(x)@;", "tree(x) @, tree(x)", "cell x -> y, y @cell x -> y, y", "emp@.",
                       "tree(x) @0", "emp @0", "emp @x", "tree(x) @z"):
            self.fault(3, marked)

    def test_4_at_the_text_length(self):
        whole = ("x == 0 and 0 != y and x == y : cell x -> any , 0 * cell 0 -> x , any * list ( x , 0 ) * list ( 0 , y ) "
                 "* tree ( x ) * tree ( 0 )")
        tokens = whole.split()
        ends = [at for at in range(len(tokens) + 1) if tokens[at:at + 1] in ([], ["*"])]
        for count in range(len(tokens) + 1):
            text = " ".join(tokens[:count])
            if count in ends:
                self.good(text)
            else:
                self.fault(4, text + "@")

    def test_4_behind_blanks_and_remarks(self):
        for marked in ("@", " @", "\t\n\r@", "#@", "# emp@", "#\n@", "x == y : # emp@", "tree(x) *#\n@", "tree@", "tree( @",
                       "cell x -> any#, any@"):
            self.fault(4, marked)

    def test_5_seventh_condition(self):
        for seventh in WHATEVER:
            self.fault(5, SIX_CONDITIONS + " and @" + seventh)
            self.fault(5, SIX_CONDITIONS + " and # x\n @" + seventh + " ?")
        for marked in (" and@", " and # x == y@", " and @x == y : emp"):
            self.fault(5, SIX_CONDITIONS + marked)

    def test_5_not_before_the_seventh_condition_begins(self):
        self.good(SIX_CONDITIONS + " : emp")
        self.fault(4, SIX_CONDITIONS + "@")
        self.fault(3, SIX_CONDITIONS + " @x == y")
        self.fault(1, SIX_CONDITIONS + " @?")
        self.fault(2, SIX_CONDITIONS + " @7")
        self.fault(3, SIX_CONDITIONS[:-6] + "@and x == y")
        self.fault(7, SIX_CONDITIONS[:-1] + "@z and")

    def test_5_seventh_piece(self):
        for seventh in WHATEVER:
            self.fault(5, SIX_PIECES + " * @" + seventh)
            self.fault(5, SIX_PIECES + "*# x\n@" + seventh + " ?")
        for marked in (" *@", " * # tree(x)@", " * @tree(x)", " * @cell x -> y, y"):
            self.fault(5, SIX_PIECES + marked)

    def test_5_not_before_the_seventh_piece_begins(self):
        self.good(SIX_PIECES)
        self.good(SIX_CONDITIONS + ":" + SIX_PIECES)
        self.fault(3, SIX_PIECES + " @tree(x)")
        self.fault(3, SIX_PIECES + " @and")
        self.fault(1, SIX_PIECES + " @?")
        self.fault(2, SIX_PIECES + " @7")
        self.fault(3, SIX_PIECES.replace("cell", "tree(x) * @emp cell", 1))

    def test_5_six_of_each(self):
        self.fault(5, SIX_CONDITIONS + " : " + SIX_PIECES + " * @tree(x)")
        self.fault(5, SIX_CONDITIONS + " and @: " + SIX_PIECES + " * tree(x)")

    def test_7_name_not_told(self):
        for marked in ("@z == x : emp", "@z", "x == @z : emp", "x == x and @z", "x == x and x != @xx", "cell @z -> x, x",
                       "cell x -> @z, x", "cell x -> x, @z", "list(@z, x)", "list(x, @z)", "tree(@z)", "tree(@long_name_1)",
                       "x == x : tree(@emp_)", "tree(x) * tree(@y_)", "tree(@any0)", "@emps", "@cells x", "@trees(x)"):
            self.fault(7, marked)

    def test_no_fault_6(self):
        self.good("x == x and x == x : tree(x) * tree(x)")

    def test_no_name_may_stand_where_there_is_no_program(self):
        got = ask(formed("x == x : emp"), formed("0 == 0 : emp"), formed("tree(abc)"), formed("tree(0)"))
        self.assertEqual(got, [[3, 7, 0], [0] + bytes_of("0 == 0 : emp"), [3, 7, 5], [0] + bytes_of("tree(0)")])

    def test_what_parts_tokens(self):
        self.good("#\n\tx\r==\ny# z\n:\n#?\nlist(x#\n,y)*tree\n(\n0\n)#")
        self.good("x==y:cell x->any,any*list(x,y)*tree(0)")
        self.good("0==0and 0!=x:emp")
        self.fault(7, "@xand y")
        self.fault(3, "x == y : cell x @= y")
        self.fault(1, "cell x @- > y, y")
        self.fault(1, "cell x @-")

    def test_place_up_to_4096(self):
        self.fault(4, "x == y" + " " * 4090 + "@")
        self.fault(1, "emp" + " " * 4092 + "@?")


class Names(unittest.TestCase):

    def test_names_of_the_program_that_is_held(self):
        got = ask(load("vars x;"), formed("tree(x)"), formed("tree(y)"), load("vars y;"), formed("tree(x)"), formed("tree(y)"))
        self.assertEqual([part[:3] for part in got[1:]],
                         [[0, 116, 114], [3, 7, 5], [0, 1], [3, 7, 5], [0, 116, 114]])

    def test_behind_a_load_that_was_refused_or_had_a_fault(self):
        for text in ([256], [32] * 4097, "vars y", "vars y; y = 0", "vars y, y;", "vars y; }", ""):
            got = ask(load("vars x;"), put_in(2, 2, 0, 0), load(text), holds("tree(x)"), formed("tree(x)"), left("tree(x)"),
                      holds("tree(y)"), formed("tree(y)"), left("tree(y)"))
            self.assertEqual(got[3:], [[1], [0] + bytes_of("tree(x)"), [0, 0, 1, 0], [3, 7, 5], [3, 7, 5], [3, 7, 5]])

    def test_names_that_an_assertion_has_are_not_held(self):
        got = ask(PROGRAM, formed("tree(z)"), formed("tree(z)"), WRITTEN)
        self.assertEqual(got[1:3], [[3, 7, 5]] * 2)
        self.assertEqual(bytes(got[3][1:]), b"vars x, y, long_name_12;\n")


class Form(unittest.TestCase):

    def form(self, text):
        got = last(PROGRAM, formed(text))
        self.assertEqual(got[0], 0, text)
        return bytes(got[1:]).decode("latin-1")

    def test_each_kind(self):
        for told, written in (
                ("emp", "emp"), (" emp # x\n", "emp"),
                ("cell x->any,any", "cell x -> any, any"), ("cell\nx ->y , 0", "cell x -> y, 0"),
                ("cell 0->0,x", "cell 0 -> 0, x"), ("cell y->any,x", "cell y -> any, x"),
                ("cell y->x,any", "cell y -> x, any"), ("cell long_name_12 -> y, x", "cell long_name_12 -> y, x"),
                ("list ( x ,y )", "list(x, y)"), ("list(0,x)", "list(0, x)"), ("list(y,0)", "list(y, 0)"),
                ("tree ( x )", "tree(x)"), ("tree(0)", "tree(0)")):
            self.assertEqual(self.form(told), written)
            self.assertEqual(self.form(written), written)

    def test_plain_parts(self):
        for told, written in (("x==y", "x == y"), ("x!=0", "x != 0"), ("0==0", "0 == 0"), ("0!=y", "0 != y"),
                              ("x==y and y!=x", "x == y and y != x"),
                              ("x==x\nand#\n0!=0 and y==x", "x == x and 0 != 0 and y == x")):
            self.assertEqual(self.form(told + ":emp"), written + " : emp")
            self.assertEqual(self.form(told + " :tree(x)*tree(y)"), written + " : tree(x) * tree(y)")

    def test_pieces_in_order(self):
        self.assertEqual(self.form("tree(x)*list(y,x)*cell x->0,any*tree(y)"),
                         "tree(x) * list(y, x) * cell x -> 0, any * tree(y)")

    def test_six_of_each(self):
        text = SIX_CONDITIONS + " : " + SIX_PIECES
        self.assertEqual(self.form(text.replace(" == ", "==").replace(" * ", "*").replace(" : ", ":")), text)

    def test_no_byte_10_at_the_end(self):
        self.assertEqual(last(PROGRAM, formed("emp\n")), [0, 101, 109, 112])


if __name__ == "__main__":
    unittest.main()
