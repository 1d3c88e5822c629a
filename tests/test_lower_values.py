"""Points 2.9 and 2.10: the rows of expressions and places, and the numbers of the locals."""

import unittest

from helpers import BOOK, BOOL, DECLARED, HELD, INT, IT, LENT, LIST, MAIN, PAIR, PLAIN, TAKEN, WAY, text_of_it
from oneowner.lower import lower
from oneowner.typed import typed

PARAMS = ("i: int, t: bool, p: pair, l: list, b: box int, v: vec int, w: vec box vec int, "
          "ri: ref int, rp: ref pair, mp: mut pair, mv: mut vec int")
I, T, P, L, B, V, W, RI, RP, MP, MV = range(1, 12)
KINDS = (
    INT, INT, BOOL, PAIR, LIST, ("box", INT), ("vec", INT), ("vec", ("box", ("vec", INT))), ("ref", INT),
    ("ref", PAIR), ("mut", PAIR), ("mut", ("vec", INT)),
)
# The variable that a test declares, and the first local that is made.
NEW, MADE = 12, 13
DEREF = ("deref",)
ENDS = tuple(("end", local) for local in range(12, 0, -1))
ZERO, ONE = ("num", 0), ("num", 1)


def copied(local):
    return ("copy", (local, ()))


def put(local, rvalue):
    return ("set", (local, ()), rvalue)


def lowered_it(body, params=PARAMS, value="0", result="int"):
    """The lowered function that has this text."""
    return lower(typed(text_of_it(params, body, value, result)))[1][IT]


class ExpressionTest(unittest.TestCase):

    def check(self, told, kind, rows):
        """Each row has an expression of a kind, the kinds of the locals that it makes, its rows, and its value."""
        for text, made, statements, value in rows:
            with self.subTest(text):
                self.assertEqual(lowered_it("let it: " + told + " = " + text + ";"), (
                    11, (*KINDS, kind, *made),
                    ((statements + (put(NEW, ("use", value)), put(0, ("use", ZERO))) + ENDS, ("return",)),),
                    (),
                ))

    def test_numbers_and_truths(self):
        self.check("int", INT, [("7", (), (), ("num", 7)), ("4294967295", (), (), ("num", 4294967295))])
        self.check("bool", BOOL, [("true", (), (), ("truth", True)), ("false", (), (), ("truth", False))])

    def test_copies(self):
        self.check("int", INT, [
            ("i", (INT,), (put(MADE, ("use", copied(I))),), copied(MADE)),
            ("*b", (INT,), (put(MADE, ("use", ("copy", (B, (DEREF,))))),), copied(MADE)),
            ("p.one", (INT,), (put(MADE, ("use", ("copy", (P, (("field", 0),))))),), copied(MADE)),
            ("v[1]", (INT,), (put(MADE, ("use", ("copy", (V, (("index", ONE),))))),), copied(MADE)),
            ("(*mp).one", (INT,), (put(MADE, ("use", ("copy", (MP, (DEREF, ("field", 0)))))),), copied(MADE)),
            ("v[i]", (INT, INT), (
                put(MADE, ("use", copied(I))),
                put(MADE + 1, ("use", ("copy", (V, (("index", copied(MADE)),))))),
            ), copied(MADE + 1)),
            ("(*w[i + 1])[v[0]]", (INT,) * 4, (
                put(MADE, ("use", copied(I))),
                put(MADE + 1, ("op", "+", copied(MADE), ONE)),
                put(MADE + 2, ("use", ("copy", (V, (("index", ZERO),))))),
                put(MADE + 3, ("use", ("copy", (W, (
                    ("index", copied(MADE + 1)), DEREF, ("index", copied(MADE + 2)),
                ))))),
            ), copied(MADE + 3)),
        ])
        self.check("bool", BOOL, [("t", (BOOL,), (put(MADE, ("use", copied(T))),), copied(MADE))])
        self.check("ref int", ("ref", INT), [
            ("ri", (("ref", INT),), (put(MADE, ("use", copied(RI))),), copied(MADE)),
        ])

    def test_moves(self):
        for text, told, kind, local in (
            ("p", "pair", PAIR, P), ("l", "list", LIST, L), ("b", "box int", ("box", INT), B),
            ("v", "vec int", ("vec", INT), V),
        ):
            self.check(told, kind, [(text, (kind,), (put(MADE, ("use", ("move", local))),), ("move", MADE))])

    def test_mut_variables_are_lent_again(self):
        for text, told, kind, local in (
            ("mp", "mut pair", ("mut", PAIR), MP), ("mv", "mut vec int", ("mut", ("vec", INT)), MV),
        ):
            self.check(told, kind, [
                (text, (kind,), (put(MADE, ("lend", "mut", (local, (DEREF,)))),), ("move", MADE)),
            ])

    def test_lending(self):
        ref, mut = ("ref", INT), ("mut", INT)
        self.check("ref int", ref, [
            ("ref i", (ref,), (put(MADE, ("lend", "ref", (I, ()))),), copied(MADE)),
            ("ref *ri", (ref,), (put(MADE, ("lend", "ref", (RI, (DEREF,)))),), copied(MADE)),
            ("ref v[i]", (INT, ref), (
                put(MADE, ("use", copied(I))),
                put(MADE + 1, ("lend", "ref", (V, (("index", copied(MADE)),)))),
            ), copied(MADE + 1)),
        ])
        self.check("mut int", mut, [
            ("mut i", (mut,), (put(MADE, ("lend", "mut", (I, ()))),), ("move", MADE)),
            ("mut (*mp).one", (mut,), (put(MADE, ("lend", "mut", (MP, (DEREF, ("field", 0))))),), ("move", MADE)),
            ("mut (*w[plain()])[0]", (INT, mut), (
                ("call", MADE, PLAIN, ()),
                put(MADE + 1, ("lend", "mut", (W, (("index", copied(MADE)), DEREF, ("index", ZERO))))),
            ), ("move", MADE + 1)),
        ])

    def test_operators(self):
        for sign, told, kind in (("+", "int", INT), ("-", "int", INT), ("*", "int", INT), ("==", "bool", BOOL),
                                 ("<", "bool", BOOL)):
            self.check(told, kind, [
                ("1 " + sign + " 0", (kind,), (put(MADE, ("op", sign, ONE, ZERO)),), copied(MADE)),
                ("i " + sign + " p.one", (INT, INT, kind), (
                    put(MADE, ("use", copied(I))),
                    put(MADE + 1, ("use", ("copy", (P, (("field", 0),))))),
                    put(MADE + 2, ("op", sign, copied(MADE), copied(MADE + 1))),
                ), copied(MADE + 2)),
            ])
        self.check("bool", BOOL, [
            ("!true", (BOOL,), (put(MADE, ("not", ("truth", True))),), copied(MADE)),
            ("!!t", (BOOL,) * 3, (
                put(MADE, ("use", copied(T))), put(MADE + 1, ("not", copied(MADE))),
                put(MADE + 2, ("not", copied(MADE + 1))),
            ), copied(MADE + 2)),
        ])
        self.check("int", INT, [
            ("(i - 1) * (0 + i)", (INT,) * 5, (
                put(MADE, ("use", copied(I))), put(MADE + 1, ("op", "-", copied(MADE), ONE)),
                put(MADE + 2, ("use", copied(I))), put(MADE + 3, ("op", "+", ZERO, copied(MADE + 2))),
                put(MADE + 4, ("op", "*", copied(MADE + 1), copied(MADE + 3))),
            ), copied(MADE + 4)),
        ])

    def test_boxes(self):
        self.check("box int", ("box", INT), [
            ("box 1", (("box", INT),), (put(MADE, ("box", ONE, INT)),), ("move", MADE)),
            ("box i", (INT, ("box", INT)), (
                put(MADE, ("use", copied(I))), put(MADE + 1, ("box", copied(MADE), INT)),
            ), ("move", MADE + 1)),
        ])
        kind = ("box", ("box", PAIR))
        self.check("box box pair", kind, [
            ("box box p", (PAIR, ("box", PAIR), kind), (
                put(MADE, ("use", ("move", P))), put(MADE + 1, ("box", ("move", MADE), PAIR)),
                put(MADE + 2, ("box", ("move", MADE + 1), ("box", PAIR))),
            ), ("move", MADE + 2)),
        ])
        self.check("int", INT, [
            ("unbox b", (("box", INT), INT), (
                put(MADE, ("use", ("move", B))), put(MADE + 1, ("unbox", MADE)),
            ), copied(MADE + 1)),
        ])
        self.check("pair", PAIR, [
            ("unbox box p", (PAIR, ("box", PAIR), PAIR), (
                put(MADE, ("use", ("move", P))), put(MADE + 1, ("box", ("move", MADE), PAIR)),
                put(MADE + 2, ("unbox", MADE + 1)),
            ), ("move", MADE + 2)),
        ])

    def test_vecs(self):
        self.check("vec int", ("vec", INT), [
            ("vec int", (("vec", INT),), (put(MADE, ("vec", INT)),), ("move", MADE)),
        ])
        kind = ("vec", ("box", HELD))
        self.check("vec box held", kind, [
            ("vec box held", (kind,), (put(MADE, ("vec", ("box", HELD))),), ("move", MADE)),
        ])
        self.check("int", INT, [
            ("len(v)", (INT,), (put(MADE, ("len", (V, ()))),), copied(MADE)),
            ("len(*mv)", (INT,), (put(MADE, ("len", (MV, (DEREF,)))),), copied(MADE)),
            ("len(*w[i])", (INT, INT), (
                put(MADE, ("use", copied(I))),
                put(MADE + 1, ("len", (W, (("index", copied(MADE)), DEREF)))),
            ), copied(MADE + 1)),
        ])

    def test_records_and_tags(self):
        self.check("pair", PAIR, [
            ("pair(1, true)", (PAIR,), (put(MADE, ("record", 0, (ONE, ("truth", True)))),), ("move", MADE)),
            ("pair(i, t)", (INT, BOOL, PAIR), (
                put(MADE, ("use", copied(I))), put(MADE + 1, ("use", copied(T))),
                put(MADE + 2, ("record", 0, (copied(MADE), copied(MADE + 1)))),
            ), ("move", MADE + 2)),
        ])
        self.check("list", LIST, [
            ("none", (LIST,), (put(MADE, ("variant", 0, 0, ())),), ("move", MADE)),
            ("none()", (LIST,), (put(MADE, ("variant", 0, 0, ())),), ("move", MADE)),
            ("some(i, box l)", (INT, LIST, ("box", LIST), LIST), (
                put(MADE, ("use", copied(I))), put(MADE + 1, ("use", ("move", L))),
                put(MADE + 2, ("box", ("move", MADE + 1), LIST)),
                put(MADE + 3, ("variant", 0, 1, (copied(MADE), ("move", MADE + 2)))),
            ), ("move", MADE + 3)),
            ("both(t, p)", (BOOL, PAIR, LIST), (
                put(MADE, ("use", copied(T))), put(MADE + 1, ("use", ("move", P))),
                put(MADE + 2, ("variant", 0, 2, (copied(MADE), ("move", MADE + 1)))),
            ), ("move", MADE + 2)),
        ])
        self.check("way", WAY, [("down", (WAY,), (put(MADE, ("variant", 1, 1, ())),), ("move", MADE))])

    def test_calls(self):
        self.check("int", INT, [
            ("plain()", (INT,), (("call", MADE, PLAIN, ()),), copied(MADE)),
            ("plain() + main()", (INT,) * 3, (
                ("call", MADE, PLAIN, ()), ("call", MADE + 1, MAIN, ()),
                put(MADE + 2, ("op", "+", copied(MADE), copied(MADE + 1))),
            ), copied(MADE + 2)),
        ])
        self.check("pair", PAIR, [
            ("taken(1, p, rp, mv)", (PAIR, ("ref", PAIR), ("mut", ("vec", INT)), PAIR), (
                put(MADE, ("use", ("move", P))), put(MADE + 1, ("use", copied(RP))),
                put(MADE + 2, ("lend", "mut", (MV, (DEREF,)))),
                ("call", MADE + 3, TAKEN, (ONE, ("move", MADE), copied(MADE + 1), ("move", MADE + 2))),
            ), ("move", MADE + 3)),
        ])
        self.check("ref int", ("ref", INT), [
            ("lent(plain(), ref p, ref *ri)", (INT, ("ref", PAIR), ("ref", INT), ("ref", INT)), (
                ("call", MADE, PLAIN, ()), put(MADE + 1, ("lend", "ref", (P, ()))),
                put(MADE + 2, ("lend", "ref", (RI, (DEREF,)))),
                ("call", MADE + 3, LENT, (copied(MADE), copied(MADE + 1), copied(MADE + 2))),
            ), copied(MADE + 3)),
        ])


class ProgramTest(unittest.TestCase):

    def test_a_program_as_a_whole(self):
        self.assertEqual(lower(typed(DECLARED)), (BOOK, (
            (0, (INT,), (((put(0, ("use", ZERO)),), ("return",)),), ()),
            (4, (PAIR, INT, PAIR, ("ref", PAIR), ("mut", ("vec", INT)), PAIR), (((
                put(5, ("use", ("move", 2))), put(0, ("use", ("move", 5))),
                ("end", 4), ("end", 3), ("end", 2), ("end", 1),
            ), ("return",)),), ()),
            (3, (("ref", INT), INT, ("ref", PAIR), ("ref", INT), ("ref", INT)), (((
                put(4, ("use", copied(3))), put(0, ("use", copied(4))), ("end", 3), ("end", 2), ("end", 1),
            ), ("return",)),), (2, 3)),
            (0, (INT,), (((put(0, ("use", ZERO)),), ("return",)),), ()),
        ), 3))

    def test_the_index_of_main(self):
        text = "fn f() -> int { return 1; } "
        self.assertEqual(lower(typed(text + "fn main() -> int { return 0; }"))[2], 1)
        self.assertEqual(lower(typed("fn main() -> int { return 0; } " + text))[2], 0)

    def test_from_has_the_locals_of_its_params(self):
        function = lowered_it("", "a: int, b: mut int, c: ref int, d: mut int", "d", "mut int from d, b")
        self.assertEqual(function, (
            4, (("mut", INT), INT, ("mut", INT), ("ref", INT), ("mut", INT), ("mut", INT)), (((
                put(5, ("lend", "mut", (4, (DEREF,)))), put(0, ("use", ("move", 5))),
                ("end", 4), ("end", 3), ("end", 2), ("end", 1),
            ), ("return",)),), (2, 4),
        ))

    def test_the_expression_behind_return(self):
        self.assertEqual(lowered_it("", "a: int", "a + 1"), (1, (INT,) * 4, (((
            put(2, ("use", copied(1))), put(3, ("op", "+", copied(2), ONE)), put(0, ("use", copied(3))), ("end", 1),
        ), ("return",)),), ()))
        self.assertEqual(lowered_it("", "a: bool", "true", "bool"), (1, (BOOL, BOOL), (((
            put(0, ("use", ("truth", True))), ("end", 1),
        ), ("return",)),), ()))
        self.assertEqual(lowered_it("", "a: int", "plain()"), (1, (INT,) * 3, (((
            ("call", 2, PLAIN, ()), put(0, ("use", copied(2))), ("end", 1),
        ), ("return",)),), ()))

    def test_locals_that_are_made_come_behind_all_variables(self):
        function = lowered_it("let b: bool = a == 1; let c: int = a; if b { let d: bool = !b; }", "a: int")
        self.assertEqual(function[1], (INT, INT, BOOL, INT, BOOL, INT, BOOL, INT, BOOL, BOOL, BOOL))
        self.assertEqual(function[2][0][0][:4], (
            put(5, ("use", copied(1))), put(6, ("op", "==", copied(5), ONE)), put(2, ("use", copied(6))),
            put(7, ("use", copied(1))),
        ))
        self.assertEqual(function[2][0][1], ("branch", copied(8), 1, 2))
        self.assertEqual(function[2][1][0], (
            put(9, ("use", copied(2))), put(10, ("not", copied(9))), put(4, ("use", copied(10))), ("end", 4),
        ))


if __name__ == "__main__":
    unittest.main()
