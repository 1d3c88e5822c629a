"""Points 2.11 and 2.12: the rows and blocks of statements, and where variables end."""

import unittest

from helpers import BOOL, INT, IT, LIST, PAIR, PLAIN, text_of_it
from oneowner.lower import lower
from oneowner.typed import typed

DEREF = ("deref",)
ZERO, ONE, TRUE = ("num", 0), ("num", 1), ("truth", True)
RETURN = ("return",)
DONE = ("set", (0, ()), ("use", ZERO))


def copied(local):
    return ("copy", (local, ()))


def put(local, rvalue):
    return ("set", (local, ()), rvalue)


def ends(*numbers):
    return tuple(("end", local) for local in numbers)


class StatementTest(unittest.TestCase):

    def check(self, params, body, kinds, *blocks):
        """The kinds are those of all locals but the result."""
        with self.subTest(body):
            function = lower(typed(text_of_it(params, body)))[1][IT]
            many = len(params.split(",")) if params else 0
            self.assertEqual(function, (many, (INT, *kinds), blocks, ()))


class SimpleTest(StatementTest):

    def test_let(self):
        self.check("", "let a: int = 1; let b: bool = true;", (INT, BOOL), (
            (put(1, ("use", ONE)), put(2, ("use", TRUE)), DONE, *ends(2, 1)), RETURN))
        self.check("a: pair", "let b: pair = a;", (PAIR, PAIR, PAIR), (
            (put(3, ("use", ("move", 1))), put(2, ("use", ("move", 3))), DONE, *ends(2, 1)), RETURN))

    def test_set(self):
        self.check("a: int", "a = 1;", (INT,), ((put(1, ("use", ONE)), DONE, *ends(1)), RETURN))
        self.check("a: int", "a = a;", (INT, INT), (
            (put(2, ("use", copied(1))), put(1, ("use", copied(2))), DONE, *ends(1)), RETURN))
        self.check("a: pair, b: mut pair", "a.two = true; *b = a;", (PAIR, ("mut", PAIR), PAIR), ((
            ("set", (1, (("field", 1),)), ("use", TRUE)),
            put(3, ("use", ("move", 1))), ("set", (2, (DEREF,)), ("use", ("move", 3))), DONE, *ends(2, 1),
        ), RETURN))

    def test_the_value_of_a_set_ahead_of_its_place(self):
        self.check("a: vec int, b: int", "a[b + 1] = plain();", (("vec", INT), INT, INT, INT, INT), ((
            ("call", 3, PLAIN, ()), put(4, ("use", copied(2))), put(5, ("op", "+", copied(4), ONE)),
            ("set", (1, (("index", copied(5)),)), ("use", copied(3))), DONE, *ends(2, 1),
        ), RETURN))

    def test_opening(self):
        self.check("a: pair", "open a as (b, c);", (PAIR, INT, BOOL, PAIR), (
            (put(4, ("use", ("move", 1))), ("open", 4, (2, 3)), DONE, *ends(3, 2, 1)), RETURN))
        self.check("", "open pair(1, true) as (b, c);", (INT, BOOL, PAIR), (
            (put(3, ("record", 0, (ONE, TRUE))), ("open", 3, (1, 2)), DONE, *ends(2, 1)), RETURN))

    def test_show(self):
        self.check("a: bool", "show 1; show a; show true; show a;", (BOOL, BOOL, BOOL), ((
            ("show", ONE), put(2, ("use", copied(1))), ("show", copied(2)), ("show", TRUE),
            put(3, ("use", copied(1))), ("show", copied(3)), DONE, *ends(1),
        ), RETURN))

    def test_push(self):
        self.check("a: vec int", "push(a, 1);", (("vec", INT),), (
            (("push", (1, ()), ONE), DONE, *ends(1)), RETURN))
        self.check("a: vec vec int, b: int", "push(a[b], plain());", (("vec", ("vec", INT)), INT, INT, INT), ((
            ("call", 3, PLAIN, ()), put(4, ("use", copied(2))),
            ("push", (1, (("index", copied(4)),)), copied(3)), DONE, *ends(2, 1),
        ), RETURN))
        self.check("a: mut vec pair, b: pair", "push(*a, b);", (("mut", ("vec", PAIR)), PAIR, PAIR), ((
            put(3, ("use", ("move", 2))), ("push", (1, (DEREF,)), ("move", 3)), DONE, *ends(2, 1),
        ), RETURN))

    def test_take(self):
        self.check("a: vec int", "take(a) as b;", (("vec", INT), INT), (
            (("take", 2, (1, ())), DONE, *ends(2, 1)), RETURN))
        self.check("a: mut vec vec pair, b: int", "take((*a)[b]) as c;",
                   (("mut", ("vec", ("vec", PAIR))), INT, PAIR, INT), ((
                       put(4, ("use", copied(2))), ("take", 3, (1, (DEREF, ("index", copied(4))))), DONE,
                       *ends(3, 2, 1)), RETURN))

    def test_do(self):
        self.check("", "plain();", (INT,), ((("call", 1, PLAIN, ()), ("drop", 1), DONE), RETURN))
        self.check("", "pair(1, true); none();", (PAIR, LIST), ((
            put(1, ("record", 0, (ONE, TRUE))), ("drop", 1), put(2, ("variant", 0, 0, ())), ("drop", 2), DONE), RETURN))
        self.check("a: ref pair, b: ref int", "lent(1, a, b);",
                   (("ref", PAIR), ("ref", INT), ("ref", PAIR), ("ref", INT), ("ref", INT)), ((
                       put(3, ("use", copied(1))), put(4, ("use", copied(2))),
                       ("call", 5, 2, (ONE, copied(3), copied(4))), ("drop", 5), DONE, *ends(2, 1)), RETURN))


class BlockTest(StatementTest):

    def test_if(self):
        self.check("", "if true { show 1; } else { show 0; } show true;", (),
                   ((), ("branch", TRUE, 1, 2)), ((("show", ONE),), ("go", 3)), ((("show", ZERO),), ("go", 3)),
                   ((("show", TRUE), DONE), RETURN))
        self.check("a: bool", "if !a { let b: int = 1; let c: int = 0; }", (BOOL, INT, INT, BOOL, BOOL),
                   ((put(4, ("use", copied(1))), put(5, ("not", copied(4)))), ("branch", copied(5), 1, 2)),
                   ((put(2, ("use", ONE)), put(3, ("use", ZERO)), *ends(3, 2)), ("go", 3)), ((), ("go", 3)),
                   ((DONE, *ends(1)), RETURN))
        self.check("", "if true { } else { let b: int = 1; }", (INT,),
                   ((), ("branch", TRUE, 1, 2)), ((), ("go", 3)), ((put(1, ("use", ONE)), *ends(1)), ("go", 3)),
                   ((DONE,), RETURN))

    def test_while(self):
        self.check("a: int", "while a < 1 { show a; let b: int = 1; } show 1;", (INT, INT, INT, BOOL, INT),
                   ((), ("go", 1)),
                   ((put(3, ("use", copied(1))), put(4, ("op", "<", copied(3), ONE))), ("branch", copied(4), 2, 3)),
                   ((put(5, ("use", copied(1))), ("show", copied(5)), put(2, ("use", ONE)), *ends(2)), ("go", 1)),
                   ((("show", ONE), DONE, *ends(1)), RETURN))
        self.check("", "show 1; while true { }", (),
                   ((("show", ONE),), ("go", 1)), ((), ("branch", TRUE, 2, 3)), ((), ("go", 1)), ((DONE,), RETURN))

    def test_match_that_moves(self):
        self.check("a: list", "match a { none { show 1; } some(b, c) { let d: int = 0; } both(e, f) { } } show 0;",
                   (LIST, INT, ("box", LIST), INT, BOOL, PAIR),
                   ((), ("switch", (1, ()), (1, 2, 3))),
                   ((("unpack", 1, 0, ()), ("show", ONE)), ("go", 4)),
                   ((("unpack", 1, 1, (2, 3)), put(4, ("use", ZERO)), *ends(4, 3, 2)), ("go", 4)),
                   ((("unpack", 1, 2, (5, 6)), *ends(6, 5)), ("go", 4)),
                   ((("show", ZERO), DONE, *ends(1)), RETURN))

    def test_match_that_lends(self):
        for how in ("ref", "mut"):
            self.check("a: list", f"match {how} a {{ none {{ }} some(b, c) {{ show 1; }} both(d, e) {{ }} }}",
                       (LIST, (how, INT), (how, ("box", LIST)), (how, BOOL), (how, PAIR)),
                       ((), ("switch", (1, ()), (1, 2, 3))),
                       ((), ("go", 4)),
                       ((put(2, ("lend", how, (1, (("part", 1, 0),)))), put(3, ("lend", how, (1, (("part", 1, 1),)))),
                         ("show", ONE), *ends(3, 2)), ("go", 4)),
                       ((put(4, ("lend", how, (1, (("part", 2, 0),)))), put(5, ("lend", how, (1, (("part", 2, 1),)))),
                         *ends(5, 4)), ("go", 4)),
                       ((DONE, *ends(1)), RETURN))

    def test_a_match_of_a_place_with_an_index(self):
        place = (1, (DEREF, ("index", copied(6))))

        def part(tag, at):
            return ("lend", "ref", (1, (*place[1], ("part", tag, at))))

        self.check("a: mut vec list", "match ref (*a)[plain()] { none { } some(b, c) { } both(d, e) { } }",
                   (("mut", ("vec", LIST)), ("ref", INT), ("ref", ("box", LIST)), ("ref", BOOL), ("ref", PAIR), INT),
                   ((("call", 6, PLAIN, ()),), ("switch", place, (1, 2, 3))),
                   ((), ("go", 4)),
                   ((put(2, part(1, 0)), put(3, part(1, 1)), *ends(3, 2)), ("go", 4)),
                   ((put(4, part(2, 0)), put(5, part(2, 1)), *ends(5, 4)), ("go", 4)),
                   ((DONE, *ends(1)), RETURN))

    def test_par(self):
        self.check("a: int", "par { let b: int = 1; show b; } { plain(); } show 1;", (INT, INT, INT, INT),
                   ((), ("par", 1, 2, 3)),
                   ((put(2, ("use", ONE)), put(3, ("use", copied(2))), ("show", copied(3)), *ends(2)), ("join",)),
                   ((("call", 4, PLAIN, ()), ("drop", 4)), ("join",)),
                   ((("show", ONE), DONE, *ends(1)), RETURN))
        self.check("", "par { } { let a: int = 1; }", (INT,),
                   ((), ("par", 1, 2, 3)), ((), ("join",)), ((put(1, ("use", ONE)), *ends(1)), ("join",)),
                   ((DONE,), RETURN))


class NumberTest(StatementTest):

    def test_blocks_within_blocks(self):
        self.check("", "if true { if true { show 1; } else { show 2; } show 3; } "
                       "else { while true { show 4; } show 5; } show 6;", (),
                   ((), ("branch", TRUE, 1, 2)),
                   ((), ("branch", TRUE, 4, 5)),
                   ((), ("go", 7)),
                   ((("show", ("num", 6)), DONE), RETURN),
                   ((("show", ONE),), ("go", 6)),
                   ((("show", ("num", 2)),), ("go", 6)),
                   ((("show", ("num", 3)),), ("go", 3)),
                   ((), ("branch", TRUE, 8, 9)),
                   ((("show", ("num", 4)),), ("go", 7)),
                   ((("show", ("num", 5)),), ("go", 3)))
        self.check("", "while true { par { show 1; } { show 2; } show 3; } show 4;", (),
                   ((), ("go", 1)),
                   ((), ("branch", TRUE, 2, 3)),
                   ((), ("par", 4, 5, 6)),
                   ((("show", ("num", 4)), DONE), RETURN),
                   ((("show", ONE),), ("join",)),
                   ((("show", ("num", 2)),), ("join",)),
                   ((("show", ("num", 3)),), ("go", 1)))

    def test_a_match_within_a_side_of_a_par(self):
        self.check("a: way", "par { if true { show 1; } } { match a { up { show 2; } down { show 3; } } show 4; }",
                   (("variant", 1),),
                   ((), ("par", 1, 2, 3)),
                   ((), ("branch", TRUE, 4, 5)),
                   ((), ("switch", (1, ()), (7, 8))),
                   ((DONE, *ends(1)), RETURN),
                   ((("show", ONE),), ("go", 6)),
                   ((), ("go", 6)),
                   ((), ("join",)),
                   ((("unpack", 1, 0, ()), ("show", ("num", 2))), ("go", 9)),
                   ((("unpack", 1, 1, ()), ("show", ("num", 3))), ("go", 9)),
                   ((("show", ("num", 4)),), ("join",)))

    def test_statements_within_the_cases_of_a_match(self):
        self.check("a: way", "match ref a { up { if true { show 1; } } down { par { } { } } } show 2;",
                   (("variant", 1),),
                   ((), ("switch", (1, ()), (1, 2))),
                   ((), ("branch", TRUE, 4, 5)),
                   ((), ("par", 7, 8, 9)),
                   ((("show", ("num", 2)), DONE, *ends(1)), RETURN),
                   ((("show", ONE),), ("go", 6)),
                   ((), ("go", 6)),
                   ((), ("go", 3)),
                   ((), ("join",)),
                   ((), ("join",)),
                   ((), ("go", 3)))

    def test_locals_are_made_in_the_order_of_the_rows(self):
        self.check("a: bool, b: int",
                   "if a { show b; } else { show b; } while a { show b; } par { show b; } { show b; } show b;",
                   (BOOL, INT, BOOL, INT, INT, BOOL, INT, INT, INT, INT),
                   ((put(3, ("use", copied(1))),), ("branch", copied(3), 1, 2)),
                   ((put(4, ("use", copied(2))), ("show", copied(4))), ("go", 3)),
                   ((put(5, ("use", copied(2))), ("show", copied(5))), ("go", 3)),
                   ((), ("go", 4)),
                   ((put(6, ("use", copied(1))),), ("branch", copied(6), 5, 6)),
                   ((put(7, ("use", copied(2))), ("show", copied(7))), ("go", 4)),
                   ((), ("par", 7, 8, 9)),
                   ((put(8, ("use", copied(2))), ("show", copied(8))), ("join",)),
                   ((put(9, ("use", copied(2))), ("show", copied(9))), ("join",)),
                   ((put(10, ("use", copied(2))), ("show", copied(10)), DONE, *ends(2, 1)), RETURN))


class EndTest(StatementTest):

    def test_variables_end_at_the_end_of_their_block(self):
        self.check("a: int", "let b: int = 1; if true { let c: int = 1; while true { let d: int = 1; let e: int = 0; } "
                             "let f: int = 1; } let g: int = 1;", (INT,) * 7,
                   ((put(2, ("use", ONE)),), ("branch", TRUE, 1, 2)),
                   ((put(3, ("use", ONE)),), ("go", 4)),
                   ((), ("go", 3)),
                   ((put(7, ("use", ONE)), DONE, *ends(7, 2, 1)), RETURN),
                   ((), ("branch", TRUE, 5, 6)),
                   ((put(4, ("use", ONE)), put(5, ("use", ZERO)), *ends(5, 4)), ("go", 4)),
                   ((put(6, ("use", ONE)), *ends(6, 3)), ("go", 3)))

    def test_all_that_declare(self):
        self.check("a: vec int, b: pair", "par { take(a) as c; open b as (d, e); let f: int = 1; } { }",
                   (("vec", INT), PAIR, INT, INT, BOOL, INT, PAIR),
                   ((), ("par", 1, 2, 3)),
                   ((("take", 3, (1, ())), put(7, ("use", ("move", 2))), ("open", 7, (4, 5)), put(6, ("use", ONE)),
                     *ends(6, 5, 4, 3)), ("join",)),
                   ((), ("join",)),
                   ((DONE, *ends(2, 1)), RETURN))

    def test_the_value_behind_return_is_made_ahead_of_the_ends(self):
        function = lower(typed(text_of_it("a: pair", "let b: int = 1;", "a", "pair")))[1][IT]
        self.assertEqual(function, (1, (PAIR, PAIR, INT, PAIR), (((
            put(2, ("use", ONE)), put(3, ("use", ("move", 1))), put(0, ("use", ("move", 3))), *ends(2, 1),
        ), RETURN),), ()))

    def test_variables_of_a_case_end_behind_what_its_statements_declare(self):
        self.check("a: list", "match a { none { } some(b, c) { if true { let d: int = 1; } let e: int = 1; } "
                              "both(f, g) { open g as (h, i); } }",
                   (LIST, INT, ("box", LIST), INT, INT, BOOL, PAIR, INT, BOOL, PAIR),
                   ((), ("switch", (1, ()), (1, 2, 3))),
                   ((("unpack", 1, 0, ()),), ("go", 4)),
                   ((("unpack", 1, 1, (2, 3)),), ("branch", TRUE, 5, 6)),
                   ((("unpack", 1, 2, (6, 7)), put(10, ("use", ("move", 7))), ("open", 10, (8, 9)),
                     *ends(9, 8, 7, 6)), ("go", 4)),
                   ((DONE, *ends(1)), RETURN),
                   ((put(4, ("use", ONE)), *ends(4)), ("go", 7)),
                   ((), ("go", 7)),
                   ((put(5, ("use", ONE)), *ends(5, 3, 2)), ("go", 4)))


if __name__ == "__main__":
    unittest.main()
