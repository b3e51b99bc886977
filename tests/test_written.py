"""The one form of a program's text."""

import unittest

from tests.helper import WRITTEN, ask, form, last, load


class Written(unittest.TestCase):

    def test_program_without_names(self):
        self.assertEqual(last(WRITTEN), [0])

    def test_bytes_stand_behind_0(self):
        self.assertEqual(last(load("vars x;"), WRITTEN), [0, 118, 97, 114, 115, 32, 120, 59, 10])

    def test_names_in_the_order_told(self):
        self.assertEqual(form("vars b,a ,c_1,abcdefghijkl;"), "vars b, a, c_1, abcdefghijkl;\n")

    def test_each_kind_of_statement(self):
        for told, written in (
                ("x=0;", "x = 0;"), ("x=y;", "x = y;"), ("x=x;", "x = x;"),
                ("x=y.next;", "x = y.next;"), ("x = y . data ;", "x = y.data;"),
                ("x.next=0;", "x.next = 0;"), ("x.data=y;", "x.data = y;"), ("y.next=x;", "y.next = x;"),
                ("x=new;", "x = new;"), ("free#\ny\t;", "free y;"),
                ("if x==0{}", "if x == 0 {\n}"), ("if 0!=y{}", "if 0 != y {\n}"),
                ("while x==y{}", "while x == y {\n}"), ("while 0!=0{}", "while 0 != 0 {\n}"),
                ("if x==y{x=0;y=0;}", "if x == y {\n  x = 0;\n  y = 0;\n}"),
                ("while x!=y{x=x.next;}", "while x != y {\n  x = x.next;\n}"),
                ("if x==y{x=0;}else{y=0;}", "if x == y {\n  x = 0;\n} else {\n  y = 0;\n}"),
                ("if x==y{}else{y=0;}", "if x == y {\n} else {\n  y = 0;\n}")):
            self.assertEqual(form("vars x,y;" + told), "vars x, y;\n" + written + "\n")
            self.assertEqual(form("vars x,y;" + told + "x=y;"), "vars x, y;\n" + written + "\nx = y;\n")

    def test_empty_second_block_is_left_out(self):
        self.assertEqual(form("vars x; if x == 0 { } else { }"), "vars x;\nif x == 0 {\n}\n")
        self.assertEqual(form("vars x; if x == 0 { x = x; } else { # nothing\n } free x;"),
                         "vars x;\nif x == 0 {\n  x = x;\n}\nfree x;\n")
        self.assertEqual(form("vars x; if x == 0 { } else { if x == 0 { } else { } }"),
                         "vars x;\nif x == 0 {\n} else {\n  if x == 0 {\n  }\n}\n")

    def test_blocks_up_to_level_six(self):
        text = "vars x;" + "if x==0{while x!=0{" * 3 + "x=0;" + "}}" * 3 + "free x;"
        self.assertEqual(form(text), """vars x;
if x == 0 {
  while x != 0 {
    if x == 0 {
      while x != 0 {
        if x == 0 {
          while x != 0 {
            x = 0;
          }
        }
      }
    }
  }
}
free x;
""")

    def test_second_blocks_within_one_another(self):
        text = "vars x;if x==0{x=0;}else{if x!=0{free x;}else{while x==x{x=new;}}x=x;}"
        self.assertEqual(form(text), """vars x;
if x == 0 {
  x = 0;
} else {
  if x != 0 {
    free x;
  } else {
    while x == x {
      x = new;
    }
  }
  x = x;
}
""")

    def test_form_is_its_own_form(self):
        for text in ("vars x;", "vars x, y; if x == y { x = new; } else { while y != 0 { y = y.data; } }"):
            self.assertEqual(form(form(text)), form(text))

    def test_long_text(self):
        self.assertEqual(form("vars x;" + "x=0;" * 1022), "vars x;\n" + "x = 0;\n" * 1022)

    def test_written_is_of_the_last_that_was_loaded(self):
        got = ask(load("vars a;"), load("vars b; b = 0;"), load("vars"), WRITTEN)
        self.assertEqual(bytes(got[3][1:]), b"vars b;\nb = 0;\n")


if __name__ == "__main__":
    unittest.main()
