"""Point 1.8: the one form of programs and statements."""

import unittest

from helpers import EVERYTHING, body_of
from oneowner.parser import parse
from oneowner.printing import print_expr, print_program

PRINTED = """record pair { one: int, two: box pair }
variant list { none, some(int, vec list) }
fn pick(a: ref pair, b: mut vec int) -> ref pair from a {
  open *a as (c, d);
  match ref (*a).two {
    none {
    }
    some(x, y) {
      show x;
    }
  }
  if !(c == 1) {
    push(*b, c - 1);
  } else {
    take(*b) as e;
  }
  while c < len(*b) {
    b[c] = c * 2 + 1;
  }
  return ref a.two;
}
fn main() -> int {
  let p: pair = pair(1, box pair(2, unbox p));
  par {
    pick(ref p, mut q[0]);
  } {
  }
  return 0;
}
"""


def printed_body(text):
    """The rows of the statements of a function that has this text as its statements."""
    tree = parse("fn f() -> int { " + text + " return 0; }")
    printed = print_program(tree)
    assert parse(printed) == tree
    rows = printed.split("\n")
    assert rows[0] == "fn f() -> int {" and rows[-3:] == ["  return 0;", "}", ""]
    return rows[1:-3]


class DeclarationTest(unittest.TestCase):

    def same(self, text):
        self.assertEqual(print_program(parse(text)), text)
        self.assertEqual(parse(print_program(parse(text))), parse(text))

    def test_a_program_of_everything(self):
        self.assertEqual(print_program(parse(EVERYTHING)), PRINTED)
        self.assertEqual(parse(PRINTED), parse(EVERYTHING))

    def test_a_program_of_nothing(self):
        self.assertEqual(print_program(((), (), ())), "")

    def test_records(self):
        self.same("record a { b: int }\n")
        self.same("record a { b: int, c: bool, d: a }\nrecord e { f: vec box e }\n")

    def test_variants(self):
        self.same("variant a { b }\n")
        self.same("variant a { b(int), c, d(box a, vec bool, e) }\nvariant e { f, g }\n")

    def test_functions(self):
        self.same("fn f() -> int {\n  return 0;\n}\n")
        self.same("fn f(a: int, b: ref vec c) -> box d {\n  return g();\n}\nfn g() -> bool {\n  return true;\n}\n")
        self.same("fn f(a: ref int) -> ref int from a {\n  return a;\n}\n")
        self.same("fn f(a: mut int, b: mut int) -> mut int from b, a {\n  return a;\n}\n")

    def test_kinds(self):
        for word in ("box", "vec", "ref", "mut"):
            for within in ("int", "bool", "name", "box name", "vec mut ref bool"):
                self.same("record a { b: " + word + " " + within + " }\n")

    def test_records_then_variants_then_functions(self):
        record, other_record = "record a { b: int }\n", "record c { d: int }\n"
        variant, other_variant = "variant e { f }\n", "variant g { h }\n"
        function, other_function = "fn i() -> int {\n  return 0;\n}\n", "fn j() -> int {\n  return 1;\n}\n"
        text = function + variant + record + other_function + other_record + other_variant
        wanted = record + other_record + variant + other_variant + function + other_function
        self.assertEqual(print_program(parse(text)), wanted)
        text = variant + function + other_variant + other_record + record
        wanted = other_record + record + variant + other_variant + function
        self.assertEqual(print_program(parse(text)), wanted)


class StatementTest(unittest.TestCase):

    def test_statements_of_one_row(self):
        for row in (
            "let a: int = 1;",
            "let a: mut vec box b = mut *c;",
            "open a as (b);",
            "open f(1) as (b, c, d);",
            "show a;",
            "show (a < 1) == b;",
            "push(a, 1);",
            "push(*a.b, c + 1);",
            "push((*a).b, f(1, 2));",
            "take(a) as b;",
            "take(*a[0]) as b;",
            "f();",
            "f(1);",
            "f(a + 1, b, g(c));",
            "a = 1;",
            "a.b = c;",
            "*a = 1;",
            "**a = 1;",
            "*a[0] = 1;",
            "(*a)[b].c = !d;",
        ):
            with self.subTest(row):
                self.assertEqual(printed_body(row), ["  " + row])

    def test_what_parentheses_and_spaces_are_left_out(self):
        for text, row in (
            ("let a:int=((1));", "let a: int = 1;"),
            ("open(a)as(b,c);", "open a as (b, c);"),
            ("push ( ( a ) , ( b ) ) ;", "push(a, b);"),
            ("take ( ( a . b [ 1 ] ) ) as c ;", "take(a.b[1]) as c;"),
            ("( f ( 1 ) ) ;", "f(1);"),
            ("( a ) = ( b );", "a = b;"),
            ("( * a ) = b;", "*a = b;"),
            ("show(a);", "show a;"),
        ):
            with self.subTest(text):
                self.assertEqual(printed_body(text), ["  " + row])

    def test_if(self):
        self.assertEqual(printed_body("if a { }"), ["  if a {", "  }"])
        self.assertEqual(printed_body("if a { } else { }"), ["  if a {", "  }"])
        self.assertEqual(printed_body("if a < 1 { f(); g(); }"), ["  if a < 1 {", "    f();", "    g();", "  }"])
        self.assertEqual(
            printed_body("if a { } else { f(); g(); }"), ["  if a {", "  } else {", "    f();", "    g();", "  }"]
        )
        self.assertEqual(
            printed_body("if a { f(); } else { if b { } else { g(); } }"),
            ["  if a {", "    f();", "  } else {", "    if b {", "    } else {", "      g();", "    }", "  }"],
        )

    def test_while(self):
        self.assertEqual(printed_body("while a { }"), ["  while a {", "  }"])
        self.assertEqual(
            printed_body("while !a { while b { f(); } g(); }"),
            ["  while !a {", "    while b {", "      f();", "    }", "    g();", "  }"],
        )

    def test_match(self):
        self.assertEqual(printed_body("match a { }"), ["  match a {", "  }"])
        self.assertEqual(
            printed_body("match a { b { } c(d) { f(); } }"),
            ["  match a {", "    b {", "    }", "    c(d) {", "      f();", "    }", "  }"],
        )
        self.assertEqual(
            printed_body("match ref a . b { b(c,d,e) { } }"),
            ["  match ref a.b {", "    b(c, d, e) {", "    }", "  }"],
        )
        self.assertEqual(printed_body("match mut * a { }"), ["  match mut *a {", "  }"])
        self.assertEqual(printed_body("match (*a)[0] { }"), ["  match (*a)[0] {", "  }"])

    def test_par(self):
        self.assertEqual(printed_body("par { } { }"), ["  par {", "  } {", "  }"])
        self.assertEqual(
            printed_body("par { f(); g(); } { par { } { h(); } }"),
            ["  par {", "    f();", "    g();", "  } {", "    par {", "    } {", "      h();", "    }", "  }"],
        )

    def test_blocks_within_blocks(self):
        text = "while a { match b { c { if d { par { e(); } { f(); } } else { g(); } h(); } } } i();"
        self.assertEqual(
            printed_body(text),
            [
                "  while a {",
                "    match b {",
                "      c {",
                "        if d {",
                "          par {",
                "            e();",
                "          } {",
                "            f();",
                "          }",
                "        } else {",
                "          g();",
                "        }",
                "        h();",
                "      }",
                "    }",
                "  }",
                "  i();",
            ],
        )

    def test_40_blocks_within_each_other(self):
        text = "while a { " * 40 + "f();" + " }" * 40
        rows = printed_body(text)
        self.assertEqual(rows[:2], ["  while a {", "    while a {"])
        self.assertEqual(rows[40], "  " * 41 + "f();")
        self.assertEqual(rows[-2:], ["    }", "  }"])
        self.assertEqual(body_of("\n".join(rows)), body_of(text))

    def test_an_expression_has_no_newline(self):
        self.assertEqual(print_expr(("name", "a")), "a")


if __name__ == "__main__":
    unittest.main()
