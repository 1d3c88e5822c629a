"""Points 2.1 and 2.5: typed programs, with each row of both tables."""

import unittest

from helpers import BOOK, BOOL, DECLARED, HELD, INT, IT, LENT, LIST, MAIN, PAIR, PLAIN, TAKEN, WAY, text_of_it
from oneowner.parser import parse
from oneowner.typed import check, typed

PARAMS = ("i: int, t: bool, p: pair, h: held, l: list, b: box int, v: vec int, w: vec box vec int, "
          "ri: ref int, rp: ref pair, rv: ref vec int, mp: mut pair, mh: mut held")
I, T, P, H, L, B, V, W, RI, RP, RV, MP, MH = range(13)
KINDS = (
    INT, BOOL, PAIR, HELD, LIST, ("box", INT), ("vec", INT), ("vec", ("box", ("vec", INT))), ("ref", INT),
    ("ref", PAIR), ("ref", ("vec", INT)), ("mut", PAIR), ("mut", HELD),
)
NEW = len(KINDS)
DEREF = ("deref",)
COPY_I = ("copy", (I, ()), INT)
COPY_T = ("copy", (T, ()), BOOL)
ZERO, ONE, TRUE = ("num", 0), ("num", 1), ("truth", True)
MOVE_P, MOVE_B = ("move", P, PAIR), ("move", B, ("box", INT))


def typed_it(body, params=PARAMS):
    """The kinds of the variables and the typed statements of a function with these params and statements."""
    function = typed(text_of_it(params, body))[1][IT]
    return function[1], function[4]


class ExpressionTest(unittest.TestCase):

    def check(self, rows):
        for text, told, kind, tree in rows:
            with self.subTest(text):
                kinds, statements = typed_it("let it: " + told + " = " + text + ";")
                self.assertEqual(kinds, KINDS + (kind,))
                self.assertEqual(statements, (("let", NEW, tree),))

    def test_numbers_and_truths(self):
        self.check([
            ("0", "int", INT, ZERO),
            ("4294967295", "int", INT, ("num", 4294967295)),
            ("true", "bool", BOOL, TRUE),
            ("false", "bool", BOOL, ("truth", False)),
        ])

    def test_places_of_copied_kinds(self):
        self.check([
            ("i", "int", INT, COPY_I),
            ("t", "bool", BOOL, COPY_T),
            ("ri", "ref int", ("ref", INT), ("copy", (RI, ()), ("ref", INT))),
            ("rp", "ref pair", ("ref", PAIR), ("copy", (RP, ()), ("ref", PAIR))),
            ("p.one", "int", INT, ("copy", (P, (("field", 0),)), INT)),
            ("p.two", "bool", BOOL, ("copy", (P, (("field", 1),)), BOOL)),
            ("*b", "int", INT, ("copy", (B, (DEREF,)), INT)),
            ("*ri", "int", INT, ("copy", (RI, (DEREF,)), INT)),
            ("(*rp).two", "bool", BOOL, ("copy", (RP, (DEREF, ("field", 1))), BOOL)),
            ("(*mp).one", "int", INT, ("copy", (MP, (DEREF, ("field", 0))), INT)),
            ("*h.item", "int", INT, ("copy", (H, (("field", 0), DEREF)), INT)),
            ("v[0]", "int", INT, ("copy", (V, (("index", ZERO),)), INT)),
            ("(*rv)[i]", "int", INT, ("copy", (RV, (DEREF, ("index", COPY_I))), INT)),
            ("(*w[i])[v[1]]", "int", INT,
             ("copy", (W, (("index", COPY_I), DEREF, ("index", ("copy", (V, (("index", ONE),)), INT)))), INT)),
            ("h.rows[1].one", "int", INT, ("copy", (H, (("field", 1), ("index", ONE), ("field", 0))), INT)),
            ("(*mh).rows[plain()].two", "bool", BOOL,
             ("copy", (MH, (DEREF, ("field", 1), ("index", ("call", PLAIN, (), INT)), ("field", 1))), BOOL)),
        ])

    def test_variables_of_moved_kinds(self):
        self.check([
            ("p", "pair", PAIR, MOVE_P),
            ("h", "held", HELD, ("move", H, HELD)),
            ("l", "list", LIST, ("move", L, LIST)),
            ("b", "box int", ("box", INT), MOVE_B),
            ("v", "vec int", ("vec", INT), ("move", V, ("vec", INT))),
            ("w", "vec box vec int", KINDS[W], ("move", W, KINDS[W])),
            ("(p)", "pair", PAIR, MOVE_P),
        ])

    def test_variables_of_the_kind_mut(self):
        self.check([
            ("mp", "mut pair", ("mut", PAIR), ("again", MP, ("mut", PAIR))),
            ("mh", "mut held", ("mut", HELD), ("again", MH, ("mut", HELD))),
        ])

    def test_operators(self):
        for sign, told, kind in (("+", "int", INT), ("-", "int", INT), ("*", "int", INT), ("==", "bool", BOOL),
                                 ("<", "bool", BOOL)):
            self.check([
                ("i " + sign + " 1", told, kind, ("op", sign, COPY_I, ONE)),
                ("p.one " + sign + " (0 + i)", told, kind,
                 ("op", sign, ("copy", (P, (("field", 0),)), INT), ("op", "+", ZERO, COPY_I))),
            ])
        self.check([
            ("!t", "bool", BOOL, ("not", COPY_T)),
            ("!!(i < 1)", "bool", BOOL, ("not", ("not", ("op", "<", COPY_I, ONE)))),
        ])

    def test_lending(self):
        self.check([
            ("ref i", "ref int", ("ref", INT), ("lend", "ref", (I, ()), ("ref", INT))),
            ("mut i", "mut int", ("mut", INT), ("lend", "mut", (I, ()), ("mut", INT))),
            ("ref p", "ref pair", ("ref", PAIR), ("lend", "ref", (P, ()), ("ref", PAIR))),
            ("mut l", "mut list", ("mut", LIST), ("lend", "mut", (L, ()), ("mut", LIST))),
            ("ref *rp", "ref pair", ("ref", PAIR), ("lend", "ref", (RP, (DEREF,)), ("ref", PAIR))),
            ("mut (*mh).item", "mut box int", ("mut", ("box", INT)),
             ("lend", "mut", (MH, (DEREF, ("field", 0))), ("mut", ("box", INT)))),
            ("ref h.rows[i]", "ref pair", ("ref", PAIR),
             ("lend", "ref", (H, (("field", 1), ("index", COPY_I))), ("ref", PAIR))),
            ("mut *w[0]", "mut vec int", ("mut", ("vec", INT)),
             ("lend", "mut", (W, (("index", ZERO), DEREF)), ("mut", ("vec", INT)))),
        ])

    def test_boxes_and_vecs(self):
        box = ("box", INT)
        self.check([
            ("box 1", "box int", box, ("box", ONE, box)),
            ("box box t", "box box bool", ("box", ("box", BOOL)),
             ("box", ("box", COPY_T, ("box", BOOL)), ("box", ("box", BOOL)))),
            ("box p", "box pair", ("box", PAIR), ("box", MOVE_P, ("box", PAIR))),
            ("unbox b", "int", INT, ("unbox", MOVE_B, INT)),
            ("unbox box p", "pair", PAIR, ("unbox", ("box", MOVE_P, ("box", PAIR)), PAIR)),
            ("vec int", "vec int", ("vec", INT), ("vec", ("vec", INT))),
            ("vec box list", "vec box list", ("vec", ("box", LIST)), ("vec", ("vec", ("box", LIST)))),
            ("vec held", "vec held", ("vec", HELD), ("vec", ("vec", HELD))),
            ("len(v)", "int", INT, ("len", (V, ()))),
            ("len(*rv)", "int", INT, ("len", (RV, (DEREF,)))),
            ("len(*w[i])", "int", INT, ("len", (W, (("index", COPY_I), DEREF)))),
            ("len(h.rows)", "int", INT, ("len", (H, (("field", 1),)))),
        ])

    def test_calls(self):
        call = ("call", PLAIN, (), INT)
        self.check([
            ("plain()", "int", INT, call),
            ("it(i, t, p, h, l, b, v, w, ri, rp, rv, mp, mh)", "int", INT,
             ("call", IT, (
                 COPY_I, COPY_T, MOVE_P, ("move", H, HELD), ("move", L, LIST), MOVE_B, ("move", V, KINDS[V]),
                 ("move", W, KINDS[W]), ("copy", (RI, ()), KINDS[RI]), ("copy", (RP, ()), KINDS[RP]),
                 ("copy", (RV, ()), KINDS[RV]), ("again", MP, KINDS[MP]), ("again", MH, KINDS[MH]),
             ), INT)),
            ("taken(1, p, rp, mut v)", "pair", PAIR,
             ("call", TAKEN, (
                 ONE, MOVE_P, ("copy", (RP, ()), ("ref", PAIR)), ("lend", "mut", (V, ()), ("mut", ("vec", INT))),
             ), PAIR)),
            ("lent(plain(), ref p, ri)", "ref int", ("ref", INT),
             ("call", LENT, (
                 call, ("lend", "ref", (P, ()), ("ref", PAIR)), ("copy", (RI, ()), ("ref", INT)),
             ), ("ref", INT))),
            ("main()", "int", INT, ("call", MAIN, (), INT)),
        ])

    def test_records_and_tags(self):
        none = ("variant", 0, 0, ())
        self.check([
            ("pair(1, t)", "pair", PAIR, ("record", 0, (ONE, COPY_T))),
            ("held(b, vec pair, none)", "held", HELD, ("record", 1, (MOVE_B, ("vec", ("vec", PAIR)), none))),
            ("none", "list", LIST, none),
            ("none()", "list", LIST, none),
            ("some(i, box none)", "list", LIST, ("variant", 0, 1, (COPY_I, ("box", none, ("box", LIST))))),
            ("both(true, p)", "list", LIST, ("variant", 0, 2, (TRUE, MOVE_P))),
            ("up", "way", WAY, ("variant", 1, 0, ())),
            ("down()", "way", WAY, ("variant", 1, 1, ())),
        ])


class StatementTest(unittest.TestCase):

    def check(self, body, kinds, statements):
        with self.subTest(body):
            self.assertEqual(typed_it(body), (KINDS + kinds, statements))

    def test_let(self):
        self.check("let a: int = i; let c: bool = t; let d: int = a;", (INT, BOOL, INT), (
            ("let", NEW, COPY_I), ("let", NEW + 1, COPY_T), ("let", NEW + 2, ("copy", (NEW, ()), INT)),
        ))

    def test_set(self):
        self.check("i = 1; p = pair(0, t); b = box i;", (), (
            ("set", (I, ()), ONE),
            ("set", (P, ()), ("record", 0, (ZERO, COPY_T))),
            ("set", (B, ()), ("box", COPY_I, ("box", INT))),
        ))
        self.check("*b = 1; (*mp).two = t; v[i] = v[0]; h.item = b; mp = mut p; ri = ref i; (*mh).rows[1] = p;", (), (
            ("set", (B, (DEREF,)), ONE),
            ("set", (MP, (DEREF, ("field", 1))), COPY_T),
            ("set", (V, (("index", COPY_I),)), ("copy", (V, (("index", ZERO),)), INT)),
            ("set", (H, (("field", 0),)), MOVE_B),
            ("set", (MP, ()), ("lend", "mut", (P, ()), ("mut", PAIR))),
            ("set", (RI, ()), ("lend", "ref", (I, ()), ("ref", INT))),
            ("set", (MH, (DEREF, ("field", 1), ("index", ONE))), MOVE_P),
        ))

    def test_opening(self):
        self.check("open p as (a, c);", (INT, BOOL), (("open", MOVE_P, (NEW, NEW + 1)),))
        self.check("open taken(1, p, rp, mut v) as (a, c); open h as (d, e, f);", (
            INT, BOOL, ("box", INT), ("vec", PAIR), LIST,
        ), (
            ("open", ("call", TAKEN, (
                ONE, MOVE_P, ("copy", (RP, ()), ("ref", PAIR)), ("lend", "mut", (V, ()), ("mut", ("vec", INT))),
            ), PAIR), (NEW, NEW + 1)),
            ("open", ("move", H, HELD), (NEW + 2, NEW + 3, NEW + 4)),
        ))

    def test_match_that_moves(self):
        self.check("match l { none { } some(a, c) { show a; } both(d, e) { } }", (
            INT, ("box", LIST), BOOL, PAIR,
        ), (
            ("match", "move", (L, ()), (
                ((), ()),
                ((NEW, NEW + 1), (("show", ("copy", (NEW, ()), INT)),)),
                ((NEW + 2, NEW + 3), ()),
            )),
        ))

    def test_match_that_lends(self):
        for how in ("ref", "mut"):
            self.check("match " + how + " l { none { } some(a, c) { show *a; } both(d, e) { } }", (
                (how, INT), (how, ("box", LIST)), (how, BOOL), (how, PAIR),
            ), (
                ("match", how, (L, ()), (
                    ((), ()),
                    ((NEW, NEW + 1), (("show", ("copy", (NEW, (DEREF,)), INT)),)),
                    ((NEW + 2, NEW + 3), ()),
                )),
            ))
            self.check("match " + how + " (*mh).tail { none { } some(a, c) { } both(d, e) { } }", (
                (how, INT), (how, ("box", LIST)), (how, BOOL), (how, PAIR),
            ), (
                ("match", how, (MH, (DEREF, ("field", 2))), (
                    ((), ()), ((NEW, NEW + 1), ()), ((NEW + 2, NEW + 3), ()),
                )),
            ))

    def test_if_and_while(self):
        self.check("if t { show 1; } else { show i; } if i < 1 { } while t { show 0; show t; }", (), (
            ("if", COPY_T, (("show", ONE),), (("show", COPY_I),)),
            ("if", ("op", "<", COPY_I, ONE), (), ()),
            ("while", COPY_T, (("show", ZERO), ("show", COPY_T))),
        ))

    def test_show(self):
        self.check("show i; show t; show 0; show i == 1;", (), (
            ("show", COPY_I), ("show", COPY_T), ("show", ZERO), ("show", ("op", "==", COPY_I, ONE)),
        ))

    def test_push_and_take(self):
        self.check("push(v, 1); push(*w[0], i); push((*mh).rows, p);", (), (
            ("push", (V, ()), ONE),
            ("push", (W, (("index", ZERO), DEREF)), COPY_I),
            ("push", (MH, (DEREF, ("field", 1))), MOVE_P),
        ))
        self.check("take(v) as a; take(w) as c; take((*mh).rows) as d;", (INT, ("box", ("vec", INT)), PAIR), (
            ("take", (V, ()), NEW),
            ("take", (W, ()), NEW + 1),
            ("take", (MH, (DEREF, ("field", 1))), NEW + 2),
        ))

    def test_par_and_do(self):
        call = ("do", ("call", PLAIN, (), INT))
        self.check("par { plain(); show 1; } { plain(); } par { } { }", (), (
            ("par", (call, ("show", ONE)), (call,)), ("par", (), ()),
        ))
        self.check("pair(1, t); none(); some(1, box none); lent(1, rp, ri);", (), (
            ("do", ("record", 0, (ONE, COPY_T))),
            ("do", ("variant", 0, 0, ())),
            ("do", ("variant", 0, 1, (ONE, ("box", ("variant", 0, 0, ()), ("box", LIST))))),
            ("do", ("call", LENT, (ONE, ("copy", (RP, ()), ("ref", PAIR)), ("copy", (RI, ()), ("ref", INT))),
                    ("ref", INT))),
        ))


class ProgramTest(unittest.TestCase):

    def test_a_program_as_a_whole(self):
        self.assertEqual(typed(DECLARED), (BOOK, (
            (0, (), INT, (), (), ZERO),
            (4, (INT, PAIR, ("ref", PAIR), ("mut", ("vec", INT))), PAIR, (), (), ("move", 1, PAIR)),
            (3, (INT, ("ref", PAIR), ("ref", INT)), ("ref", INT), (1, 2), (), ("copy", (2, ()), ("ref", INT))),
            (0, (), INT, (), (), ZERO),
        ), MAIN))

    def test_check_takes_the_tree(self):
        self.assertEqual(check(parse(DECLARED)), typed(DECLARED))
        text = text_of_it(PARAMS, "match l { none { } some(a, c) { show a; } both(d, e) { } } show i;")
        self.assertEqual(check(parse(text)), typed(text))

    def test_the_index_of_main(self):
        for ahead in range(4):
            text = "".join(f"fn f{at}() -> int {{ return 0; }} " for at in range(ahead))
            text = text + "fn main() -> bool { return true; } fn g() -> int { return 0; }"
            self.assertEqual(typed(text)[2], ahead)
            self.assertEqual(len(typed(text)[1]), ahead + 2)

    def test_an_empty_book(self):
        self.assertEqual(typed("fn main(a: int, b: bool) -> bool { return b; }"), (
            ((), ()), ((2, (INT, BOOL), BOOL, (), (), ("copy", (1, ()), BOOL)),), 0,
        ))

    def test_the_order_of_the_text_does_not_matter_to_names(self):
        text = ("fn main() -> int { show f(a1(2)); return 0; } fn f(x: v) -> int { return 1; } "
                "variant v { a0, a1(int) } record r { y: box s } record s { z: vec r, w: v }")
        self.assertEqual(typed(text), (
            ((( ("box", ("record", 1)),), (("vec", ("record", 0)), ("variant", 0))), (((), (INT,)),)),
            (
                (0, (), INT, (), (("show", ("call", 1, (("variant", 0, 1, (("num", 2),)),), INT)),), ZERO),
                (1, (("variant", 0),), INT, (), (), ONE),
            ),
            0,
        ))

    def test_each_kind_as_field_part_param_local_and_result(self):
        for text, kind in (
            ("int", INT), ("bool", BOOL), ("pair", PAIR), ("list", LIST), ("box int", ("box", INT)),
            ("vec bool", ("vec", BOOL)), ("box vec pair", ("box", ("vec", PAIR))),
            ("vec box list", ("vec", ("box", LIST))),
        ):
            with self.subTest(text):
                book, functions, _ = typed(
                    DECLARED + f"record more {{ a: int, b: {text} }} variant most {{ some1(bool, {text}), none1 }} "
                    f"fn g(a: {text}) -> {text} {{ let b: {text} = a; return b; }}"
                )
                self.assertEqual(book[0][2], (INT, kind))
                self.assertEqual(book[1][2], ((BOOL, kind), ()))
                params, kinds, result, lenders, _, _ = functions[IT]
                self.assertEqual((params, kinds, result, lenders), (1, (kind, kind), kind, ()))
                for word in ("ref", "mut"):
                    told = word + " " + text
                    text_of_g = f"fn g(a: {told}) -> {told} from a {{ let b: {told} = a; return b; }}"
                    function = typed(DECLARED + text_of_g)[1][IT]
                    self.assertEqual(function[:4], (1, ((word, kind), (word, kind)), (word, kind), (0,)))

    def test_from(self):
        head = DECLARED + "fn g(a: ref int, b: int, c: mut int, d: mut int, e: ref bool) -> "
        for behind, value, numbers in (
            ("ref int from a", "a", (0,)),
            ("ref int from c", "ref *c", (2,)),
            ("ref int from e", "a", (4,)),
            ("ref int from d, a", "a", (0, 3)),
            ("ref int from e, d, c, a", "a", (0, 2, 3, 4)),
            ("mut int from c", "c", (2,)),
            ("mut int from d, c", "c", (2, 3)),
        ):
            with self.subTest(behind):
                function = typed(head + behind + " { return " + value + "; }")[1][IT]
                self.assertEqual(function[3], numbers)
                self.assertEqual(function[2], ("ref", INT) if behind.startswith("ref") else ("mut", INT))


if __name__ == "__main__":
    unittest.main()
