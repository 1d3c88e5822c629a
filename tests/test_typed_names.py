"""Points 2.3 and 2.4: which names count where, and what they mean."""

import unittest

from helpers import BOOL, DECLARED, INT, IT, LIST, PAIR, program_error_of, text_of_it
from oneowner.typed import typed

NONE = ("variant", 0, 0, ())


def typed_it(body, params="", value="0", result="int"):
    """The typed function that has this text."""
    return typed(text_of_it(params, body, value, result))[1][IT]


class NumberTest(unittest.TestCase):

    def test_params_come_first_then_the_order_of_the_text(self):
        function = typed_it(
            "let c: bool = b; if c { let d: int = 1; let e: bool = c; } else { let f: vec int = vec int; } "
            "match l { none { let g: int = 2; } some(h, i) { } both(j, k) { open k as (m, n); } } "
            "while c { let o: vec bool = vec bool; take(o) as q; } let r: int = a;",
            "a: int, b: bool, l: list",
        )
        self.assertEqual(function[0], 3)
        self.assertEqual(function[1], (
            INT, BOOL, LIST, BOOL, INT, BOOL, ("vec", INT), INT, INT, ("box", LIST), BOOL, PAIR, INT, BOOL,
            ("vec", BOOL), BOOL, INT,
        ))
        self.assertEqual(function[4], (
            ("let", 3, ("copy", (1, ()), BOOL)),
            ("if", ("copy", (3, ()), BOOL),
             (("let", 4, ("num", 1)), ("let", 5, ("copy", (3, ()), BOOL))),
             (("let", 6, ("vec", ("vec", INT))),)),
            ("match", "move", (2, ()), (
                ((), (("let", 7, ("num", 2)),)),
                ((8, 9), ()),
                ((10, 11), (("open", ("move", 11, PAIR), (12, 13)),)),
            )),
            ("while", ("copy", (3, ()), BOOL), (("let", 14, ("vec", ("vec", BOOL))), ("take", (14, ()), 15))),
            ("let", 16, ("copy", (0, ()), INT)),
        ))

    def test_names_are_used_again_behind_their_block(self):
        function = typed_it(
            "if true { let a: int = 1; show a; } else { let a: bool = true; show a; } "
            "while true { let a: bool = false; show a; } par { let a: int = 2; show a; } { let a: int = 3; show a; } "
            "match l { none { let a: int = 4; show a; } some(a, b) { show a; } both(b, a) { show b; } } "
            "match way1 { up { let a: int = 5; } down { let a: int = 6; } } let a: int = 7; show a;",
            "l: list, way1: way",
        )
        self.assertEqual(function[1][2:], (
            INT, BOOL, BOOL, INT, INT, INT, INT, ("box", LIST), BOOL, PAIR, INT, INT, INT,
        ))
        self.assertEqual(function[4][-1], ("show", ("copy", (14, ()), INT)))
        self.assertEqual(function[4][0][3][1], ("show", ("copy", (3, ()), BOOL)))
        self.assertEqual(function[4][3][3][1], ((8, 9), (("show", ("copy", (8, ()), INT)),)))

    def test_each_function_has_its_own_variables(self):
        functions = typed(DECLARED + "fn f(a: int) -> int { let b: int = a; return b; } "
                          "fn g(b: bool) -> bool { let a: bool = b; return a; }")[1]
        self.assertEqual(functions[IT][1], (INT, INT))
        self.assertEqual(functions[IT + 1][1], (BOOL, BOOL))
        self.assertEqual(functions[IT + 1][4], (("let", 1, ("copy", (0, ()), BOOL)),))


class CountingTest(unittest.TestCase):

    def refused(self, body, name, word="UnknownName", params="l: list, v: vec int, p: pair"):
        with self.subTest(body):
            self.assertEqual(program_error_of(text_of_it(params, body)), (word, name))

    def test_a_variable_counts_from_the_end_of_its_statement(self):
        for body, name in (
            ("let a: int = a;", "a"),
            ("show a; let a: int = 1;", "a"),
            ("let a: int = 1 + plain() + a;", "a"),
            ("open pair(a, true) as (a, b);", "a"),
            ("open pair(1, b) as (a, b);", "b"),
            ("take(a) as a;", "a"),
            ("take(v[a]) as a;", "a"),
            ("match ref a { none { } some(a, b) { } both(a, b) { } }", "a"),
        ):
            self.refused(body, name)

    def test_a_variable_counts_until_the_end_of_its_block(self):
        for body in (
            "if true { let a: int = 1; } show a;",
            "if true { let a: int = 1; } else { show a; }",
            "if true { } else { let a: int = 1; } show a;",
            "while true { take(v) as a; } show a;",
            "while a < 1 { let a: int = 1; }",
            "par { let a: int = 1; } { show a; }",
            "par { } { let a: int = 1; } show a;",
            "match l { none { show a; } some(a, b) { } both(c, d) { } }",
            "match l { none { } some(a, b) { } both(c, d) { show a; } }",
            "match l { none { } some(a, b) { } both(c, d) { } } show a;",
            "match ref l { none { } some(a, b) { } both(c, d) { } } show *a;",
            "match l { none { let a: int = 1; } some(c, b) { show a; } both(c, d) { } }",
            "if true { if true { open p as (a, b); } show a; }",
        ):
            self.refused(body, "a")

    def test_variables_count_within_further_blocks(self):
        self.assertEqual(typed_it(
            "let a: int = 1; if true { while true { par { show a; } { match l { none { show a; } some(b, c) { "
            "show a + b; if true { show b; } } both(b, c) { show b; } } } } show a; }", "l: list",
        )[1], (LIST, INT, INT, ("box", LIST), BOOL, PAIR))

    def test_no_variables_of_other_functions(self):
        self.assertEqual(program_error_of(
            DECLARED + "fn f(a: int) -> int { let b: int = 1; return b; } fn g() -> int { return a; }",
        ), ("UnknownName", "a"))
        self.assertEqual(program_error_of(
            DECLARED + "fn f(a: int) -> int { let b: int = 1; return b; } fn g() -> int { return b; }",
        ), ("UnknownName", "b"))

    def test_what_counts_is_not_declared_again(self):
        params = "a: int, l: list, v: vec int, p: pair"
        for body in (
            "let a: int = 1;",
            "let a: bool = true;",
            "if true { let a: int = 1; }",
            "if true { } else { let a: int = 1; }",
            "while true { let a: int = 1; }",
            "par { let a: int = 1; } { }",
            "par { } { let a: int = 1; }",
            "open p as (a, b);",
            "open p as (b, a);",
            "take(v) as a;",
            "match l { none { let a: int = 1; } some(b, c) { } both(d, e) { } }",
            "match l { none { } some(a, c) { } both(d, e) { } }",
            "match ref l { none { } some(b, c) { } both(d, a) { } }",
        ):
            self.refused(body, "a", "DoubleName", params)

    def test_declared_twice_by_one_statement(self):
        self.refused("open p as (b, b);", "b", "DoubleName")
        self.refused("match l { none { } some(b, b) { } both(d, e) { } }", "b", "DoubleName")
        self.refused("match mut l { none { } some(b, c) { } both(d, d) { } }", "d", "DoubleName")

    def test_declared_again_by_later_statements(self):
        for body in (
            "let b: int = 1; let b: int = 2;",
            "open p as (b, c); let b: int = 1;",
            "take(v) as b; take(v) as b;",
            "let b: int = 1; if true { let c: int = 1; } while true { let b: int = 2; }",
            "match l { none { } some(b, c) { let b: int = 1; } both(d, e) { } }",
            "match l { none { } some(d, c) { } both(d, b) { let b: int = 1; } }",
            "if true { let b: int = 1; let b: int = 1; }",
        ):
            self.refused(body, "b", "DoubleName")


class MeaningOfNamesTest(unittest.TestCase):

    def check(self, params, body, *statements):
        with self.subTest(body):
            self.assertEqual(typed_it(body, params)[4], statements)

    def test_a_variable_and_a_tag_at_once(self):
        self.check("none: int", "show none; let a: list = none();",
                   ("show", ("copy", (0, ()), INT)), ("let", 1, NONE))
        self.check("", "let a: list = none; let none: int = 1; let b: list = none(); show none;",
                   ("let", 0, NONE), ("let", 1, ("num", 1)), ("let", 2, NONE), ("show", ("copy", (1, ()), INT)))
        self.check("", "if true { let none: int = 1; show none; } let b: list = none;",
                   ("if", ("truth", True), (("let", 0, ("num", 1)), ("show", ("copy", (0, ()), INT))), ()),
                   ("let", 1, NONE))
        self.check("some: box list", "let a: list = some(1, some);",
                   ("let", 1, ("variant", 0, 1, (("num", 1), ("move", 0, ("box", LIST))))))

    def test_a_variable_and_a_record_function_or_variant_at_once(self):
        self.check("pair: int, plain: bool, list: int",
                   "let a: pair = pair(pair, plain); show plain(); show plain; let b: list = none; show list;",
                   ("let", 3, ("record", 0, (("copy", (0, ()), INT), ("copy", (1, ()), BOOL)))),
                   ("show", ("call", 0, (), INT)), ("show", ("copy", (1, ()), BOOL)),
                   ("let", 4, NONE), ("show", ("copy", (2, ()), INT)))
        self.check("it: int", "show it;", ("show", ("copy", (0, ()), INT)))

    def test_a_field_and_other_things_at_once(self):
        self.check("one: pair", "show one.one;", ("show", ("copy", (0, (("field", 0),)), INT)))
        text = "record a { main: int, b: bool } record c { a: int, b: a } variant d { e(c) } "
        self.assertEqual(typed(text + "fn main(b: int, a: int, d: int, e: int) -> int { return a; }")[0],
                         (((INT, BOOL), (INT, ("record", 0))), (((("record", 1),),),)))

    def test_functions_call_each_other_and_themselves(self):
        functions = typed(
            "fn main() -> int { return even(3); } fn even(a: int) -> int { return odd(even(a)); } "
            "fn odd(a: int) -> int { return main() + even(a); }"
        )[1]
        a = ("copy", (0, ()), INT)
        self.assertEqual(functions[0][5], ("call", 1, (("num", 3),), INT))
        self.assertEqual(functions[1][5], ("call", 2, (("call", 1, (a,), INT),), INT))
        self.assertEqual(functions[2][5], ("op", "+", ("call", 0, (), INT), ("call", 1, (a,), INT)))


if __name__ == "__main__":
    unittest.main()
