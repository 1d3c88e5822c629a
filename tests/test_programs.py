"""Statements, functions, records and variants: points 1.5 and 1.6, and point 0.4 for trees."""

import unittest

from helpers import EVERYTHING, body_of, statement_of
from oneowner.parser import parse

A, B, C = ("name", "a"), ("name", "b"), ("name", "c")
INT, BOOL = ("int",), ("bool",)
ZERO, ONE = ("num", 0), ("num", 1)
CALL = ("do", ("call", "f", ()))


class StatementTest(unittest.TestCase):

    def check(self, rows):
        for text, tree in rows:
            with self.subTest(text):
                self.assertEqual(statement_of(text), tree)
                self.assertEqual(statement_of("if a { " + text + " }"), ("if", A, (tree,), ()))

    def test_let(self):
        self.check([
            ("let a: int = 1;", ("let", "a", INT, ONE)),
            ("let b : box pair = box a ;", ("let", "b", ("box", ("named", "pair")), ("box", A))),
            ("let c: bool = a < b;", ("let", "c", BOOL, ("op", "<", A, B))),
        ])

    def test_opening(self):
        self.check([
            ("open a as (b);", ("open", A, ("b",))),
            ("open f(a) as (b, c, d);", ("open", ("call", "f", (A,)), ("b", "c", "d"))),
        ])

    def test_match(self):
        self.check([
            ("match a { }", ("match", "move", A, ())),
            ("match ref a { }", ("match", "ref", A, ())),
            ("match mut a { }", ("match", "mut", A, ())),
            ("match a { t { } }", ("match", "move", A, (("t", (), ()),))),
            ("match *a.b { t(x) { f(); } u { } v(x, y, z) { f(); f(); } }",
             ("match", "move", ("deref", ("field", A, "b")),
              (("t", ("x",), (CALL,)), ("u", (), ()), ("v", ("x", "y", "z"), (CALL, CALL))))),
            ("match ref *a { t(x) { } }", ("match", "ref", ("deref", A), (("t", ("x",), ()),))),
            ("match mut (a[b]) { }", ("match", "mut", ("index", A, B), ())),
            ("match (a) { t { } t { } }", ("match", "move", A, (("t", (), ()), ("t", (), ())))),
        ])

    def test_if(self):
        self.check([
            ("if a { }", ("if", A, (), ())),
            ("if a { f(); }", ("if", A, (CALL,), ())),
            ("if a { } else { f(); }", ("if", A, (), (CALL,))),
            ("if a { f(); f(); } else { }", ("if", A, (CALL, CALL), ())),
            ("if a == b { if c { } else { f(); } }",
             ("if", ("op", "==", A, B), (("if", C, (), (CALL,)),), ())),
            ("if a { if c { } } else { f(); }", ("if", A, (("if", C, (), ()),), (CALL,))),
        ])

    def test_while(self):
        self.check([
            ("while true { }", ("while", ("truth", True), ())),
            ("while a < 1 { f(); f(); }", ("while", ("op", "<", A, ONE), (CALL, CALL))),
        ])

    def test_show(self):
        self.check([("show a;", ("show", A)), ("show 1 + 0;", ("show", ("op", "+", ONE, ZERO)))])

    def test_push_and_take(self):
        self.check([
            ("push(a, 1);", ("push", A, ONE)),
            ("push(*a, b == c);", ("push", ("deref", A), ("op", "==", B, C))),
            ("push((a[b]), (c));", ("push", ("index", A, B), C)),
            ("take(a) as b;", ("take", A, "b")),
            ("take(*a.c) as d;", ("take", ("deref", ("field", A, "c")), "d")),
            ("take((a)) as b;", ("take", A, "b")),
        ])

    def test_par(self):
        self.check([
            ("par { } { }", ("par", (), ())),
            ("par { f(); f(); } { par { } { f(); } }", ("par", (CALL, CALL), (("par", (), (CALL,)),))),
        ])

    def test_calls(self):
        self.check([
            ("f();", CALL),
            ("f(a, 1);", ("do", ("call", "f", (A, ONE)))),
            ("(f());", CALL),
            ("((f(a)));", ("do", ("call", "f", (A,)))),
        ])

    def test_set(self):
        self.check([
            ("a = 1;", ("set", A, ONE)),
            ("a.b = c;", ("set", ("field", A, "b"), C)),
            ("a[b] = c;", ("set", ("index", A, B), C)),
            ("*a = b;", ("set", ("deref", A), B)),
            ("**a.b = c;", ("set", ("deref", ("deref", ("field", A, "b"))), C)),
            ("(a) = 1;", ("set", A, ONE)),
            ("(*a).b = c;", ("set", ("field", ("deref", A), "b"), C)),
            ("((*a)) = b;", ("set", ("deref", A), B)),
            ("*(a) = b;", ("set", ("deref", A), B)),
            ("(a.b)[c] = a;", ("set", ("index", ("field", A, "b"), C), A)),
            ("a = b == c;", ("set", A, ("op", "==", B, C))),
            ("a = f();", ("set", A, ("call", "f", ()))),
        ])

    def test_several_statements_stand_in_their_order(self):
        self.assertEqual(body_of(""), ())
        self.assertEqual(body_of("show 0; f(); show 1; f();"), (("show", ZERO), CALL, ("show", ONE), CALL))


class ProgramTest(unittest.TestCase):

    def test_empty_programs(self):
        for text in ("", "\n", " # nothing\n "):
            with self.subTest(text):
                self.assertEqual(parse(text), ((), (), ()))

    def test_records(self):
        for text, tree in (
            ("record a { b: int }", ("a", (("b", INT),))),
            ("record a { b: int, c: box a, d: ref bool }",
             ("a", (("b", INT), ("c", ("box", ("named", "a"))), ("d", ("ref", BOOL))))),
        ):
            with self.subTest(text):
                self.assertEqual(parse(text), ((tree,), (), ()))

    def test_variants(self):
        for text, tree in (
            ("variant a { b }", ("a", (("b", ()),))),
            ("variant a { b, c(int), d(box a, bool, mut int) }",
             ("a", (("b", ()), ("c", (INT,)), ("d", (("box", ("named", "a")), BOOL, ("mut", INT)))))),
        ):
            with self.subTest(text):
                self.assertEqual(parse(text), ((), (tree,), ()))

    def test_functions(self):
        for text, tree in (
            ("fn f() -> int { return 0; }", ("f", (), INT, (), (), ZERO)),
            ("fn f(a: int) -> bool { f(); return a == 1; }",
             ("f", (("a", INT),), BOOL, (), (CALL,), ("op", "==", A, ONE))),
            ("fn f(a: ref r, b: mut int) -> ref r from a { f(); show 1; return a; }",
             ("f", (("a", ("ref", ("named", "r"))), ("b", ("mut", INT))), ("ref", ("named", "r")), ("a",),
              (CALL, ("show", ONE)), A)),
            ("fn f() -> mut int from c, a, b { return mut *a; }",
             ("f", (), ("mut", INT), ("c", "a", "b"), (), ("mut", ("deref", A)))),
        ):
            with self.subTest(text):
                self.assertEqual(parse(text), ((), (), (tree,)))

    def test_each_of_the_three_stands_in_the_order_of_the_text(self):
        text = ("fn g() -> int { return 1; } record s { b: int } variant w { b } record r { c: int } "
                "variant v { c } fn f() -> int { return 0; }")
        self.assertEqual(parse(text), (
            (("s", (("b", INT),)), ("r", (("c", INT),))),
            (("w", (("b", ()),)), ("v", (("c", ()),))),
            (("g", (), INT, (), (), ONE), ("f", (), INT, (), (), ZERO)),
        ))

    def test_the_example_of_the_interface(self):
        self.assertEqual(
            parse("fn main(x: int) -> int { let b: box int = box x; return unbox b; }"),
            ((), (), (("main", (("x", ("int",)),), ("int",), (),
                       (("let", "b", ("box", ("int",)), ("box", ("name", "x"))),), ("unbox", ("name", "b"))),)))

    def test_what_is_judged_later_is_no_matter_here(self):
        text = ("record a { b: int, b: nothing } variant a { b, b } "
                "fn a(b: int, b: int) -> ref int { let b: int = true; return g(); }")
        records, variants, functions = parse(text)
        self.assertEqual(records, (("a", (("b", INT), ("b", ("named", "nothing")))),))
        self.assertEqual(variants, (("a", (("b", ()), ("b", ()))),))
        self.assertEqual(functions, (
            ("a", (("b", INT), ("b", INT)), ("ref", INT), (), (("let", "b", INT, ("truth", True)),),
             ("call", "g", ())),))

    def test_a_program_with_everything(self):
        records, variants, (pick, main) = parse(EVERYTHING)
        deref_a, deref_b, q = ("deref", A), ("deref", B), ("name", "q")
        self.assertEqual(records, (("pair", (("one", INT), ("two", ("box", ("named", "pair"))))),))
        self.assertEqual(variants, (("list", (("none", ()), ("some", (INT, ("vec", ("named", "list")))))),))
        self.assertEqual(pick, (
            "pick", (("a", ("ref", ("named", "pair"))), ("b", ("mut", ("vec", INT)))), ("ref", ("named", "pair")),
            ("a",), (
                ("open", deref_a, ("c", "d")),
                ("match", "ref", ("field", deref_a, "two"),
                 (("none", (), ()), ("some", ("x", "y"), (("show", ("name", "x")),)))),
                ("if", ("not", ("op", "==", C, ONE)), (("push", deref_b, ("op", "-", C, ONE)),),
                 (("take", deref_b, "e"),)),
                ("while", ("op", "<", C, ("len", deref_b)),
                 (("set", ("index", B, C), ("op", "+", ("op", "*", C, ("num", 2)), ONE)),)),
            ), ("ref", ("field", A, "two"))))
        self.assertEqual(main, (
            "main", (), INT, (), (
                ("let", "p", ("named", "pair"), ("call", "pair", (
                    ONE, ("box", ("call", "pair", (("num", 2), ("unbox", ("name", "p")))))))),
                ("par", (("do", ("call", "pick", (("ref", ("name", "p")), ("mut", ("index", q, ZERO))))),), ()),
            ), ZERO))


class ValueTest(unittest.TestCase):
    """Point 0.4 for trees."""

    def members(self, tree):
        found = [tree]
        if isinstance(tree, tuple):
            for member in tree:
                found += self.members(member)
        return found

    def test_trees_are_tuples_integers_strings_and_truths(self):
        for member in self.members(parse(EVERYTHING + "fn f() -> bool { return true; }")):
            self.assertIn(member.__class__, (tuple, int, str, bool))

    def test_the_same_text_has_the_same_tree_again(self):
        self.assertEqual(parse(EVERYTHING), parse(EVERYTHING))
        self.assertEqual(body_of("f(); f();"), (CALL, CALL))
        self.assertEqual(body_of("f();"), (CALL,))


if __name__ == "__main__":
    unittest.main()
