"""Point 2.8: of several errors of a program the first one counts."""

import unittest

from helpers import program_error_of, text_of_it

# Declarations with one error each, in the order in which they count, with the error.
BASE = [f"record base{at} {{ a: int }}" for at in range(8)]
ERRORS = (
    ("record", "record base0 { z: int }", "DoubleName", "base0"),
    ("record", "record r1 { f1: int, f1: bool }", "DoubleName", "f1"),
    ("record", "record base1 { z: int }", "DoubleName", "base1"),
    ("variant", "variant base2 { z2 }", "DoubleName", "base2"),
    ("variant", "variant v3 { z3, base3 }", "DoubleName", "base3"),
    ("variant", "variant base4 { z4 }", "DoubleName", "base4"),
    ("function", "fn base5() -> int { return 0; }", "DoubleName", "base5"),
    ("function", "fn g6(p6: int, p6: int) -> int { return 0; }", "DoubleName", "p6"),
    ("function", "fn base6() -> int { return 0; }", "DoubleName", "base6"),
    ("record", "record r8 { a: k8 }", "UnknownName", "k8"),
    ("record", "record r9 { a: int, a9: ref int }", "WrongKind", "a9"),
    ("record", "record r10 { a: vec mut int }", "WrongKind", "vec"),
    ("variant", "variant v11 { t11(k11) }", "UnknownName", "k11"),
    ("variant", "variant v12 { t12, u12(mut int) }", "WrongKind", "u12"),
    ("function", "fn g13(a: k13) -> int { return 0; }", "UnknownName", "k13"),
    ("function", "fn g14(a: int) -> k14 { return 0; }", "UnknownName", "k14"),
    ("function", "fn g15(a: ref int) -> ref int from l15 { return a; }", "UnknownName", "l15"),
    ("function", "fn g16(a: ref int) -> int from a { return 0; }", "WrongCount", "g16"),
    ("function", "fn g17(a17: int) -> ref int from a17 { return 0; }", "WrongKind", "a17"),
    ("function", "fn g18(a: int) -> box ref int { return 0; }", "WrongKind", "box"),
    ("main", "fn main(a: box int) -> int { return 0; }", "WrongKind", "main"),
    ("record", "record r20 { a: r20 }", "Endless", "r20"),
    ("variant", "variant v21 { t21(v21) }", "Endless", "v21"),
    ("function", "fn g22() -> int { show x22; return 0; }", "UnknownName", "x22"),
    ("function", "fn g23() -> int { return true; }", "WrongKind", "return"),
)


def program_of(*errors):
    """A program with these errors, its functions ahead of its variants, and these ahead of its records."""
    texts = [text for _, text, _, _ in errors]
    words = [word for word, _, _, _ in errors]
    rows = [text for word, text in zip(words, texts) if word in ("function", "main")]
    if "main" not in words:
        rows.append("fn main() -> int { return 0; }")
    for wanted in ("variant", "record"):
        if wanted == "record":
            rows.extend(BASE)
        rows.extend([text for word, text in zip(words, texts) if word == wanted])
    return "\n".join(rows)


class ProgramTest(unittest.TestCase):

    def test_each_error_alone(self):
        for error in ERRORS:
            with self.subTest(error):
                self.assertEqual(program_error_of(program_of(error)), error[2:])

    def test_each_two_errors(self):
        for at in range(len(ERRORS)):
            for other in range(at + 1, len(ERRORS)):
                with self.subTest(ERRORS[at] + ERRORS[other]):
                    self.assertEqual(program_error_of(program_of(ERRORS[at], ERRORS[other])), ERRORS[at][2:])

    def test_all_errors_but_the_first_ones(self):
        for at in range(len(ERRORS)):
            self.assertEqual(program_error_of(program_of(*ERRORS[at:])), ERRORS[at][2:])

    def test_no_main(self):
        records, functions = " ".join(BASE), "fn f() -> int { return x; }"
        self.assertEqual(program_error_of(records + " " + functions), ("UnknownName", "main"))
        for _, text, word, name in ERRORS[:18]:
            self.assertEqual(program_error_of(records + " " + functions + " " + text), (word, name))
        for _, text, _, _ in ERRORS[21:]:
            self.assertEqual(program_error_of(records + " " + text), ("UnknownName", "main"))


class DeclarationTest(unittest.TestCase):

    def check(self, rows):
        for text, word, name in rows:
            with self.subTest(text):
                self.assertEqual(program_error_of("fn main() -> int { return 0; } " + text), (word, name))

    def test_names_within_records_variants_and_functions(self):
        self.check([
            ("record a { x: int, x: int } record a { y: int, y: int }", "DoubleName", "x"),
            ("record a { x: int } record a { y: int, y: int }", "DoubleName", "a"),
            ("record a { x: int, y: int, y: int, x: int }", "DoubleName", "y"),
            ("variant a { x } variant a { y, y }", "DoubleName", "a"),
            ("variant a { x, y, y, x }", "DoubleName", "y"),
            ("variant a { x, x } variant a { y }", "DoubleName", "x"),
            ("variant a { x, b } variant b { y, y }", "DoubleName", "b"),
            ("fn f(a: int) -> int { return 0; } fn f(b: int, b: int) -> int { return 0; }", "DoubleName", "f"),
            ("fn f(a: int, b: int, b: int, a: int) -> int { return 0; }", "DoubleName", "b"),
            ("fn f(a: int, a: int) -> int { return 0; } fn f() -> int { return 0; }", "DoubleName", "a"),
        ])

    def test_kinds_of_fields_and_tags(self):
        self.check([
            ("record a { x: u } record b { y: v }", "UnknownName", "u"),
            ("record a { x: ref int, y: u }", "WrongKind", "x"),
            ("record a { x: box ref u }", "UnknownName", "u"),
            ("record a { x: ref box mut int }", "WrongKind", "box"),
            ("record a { x: ref ref int }", "WrongKind", "ref"),
            ("record a { x: int, y: ref int, z: mut int }", "WrongKind", "y"),
            ("variant a { x(ref int, u) }", "WrongKind", "x"),
            ("variant a { x(u, ref int) }", "UnknownName", "u"),
            ("variant a { x, y(int, u), z(v) }", "UnknownName", "u"),
            ("variant a { x(vec ref int), y(u) }", "WrongKind", "vec"),
        ])

    def test_params_result_and_from(self):
        self.check([
            ("fn f(a: u, b: v) -> w { return 0; }", "UnknownName", "u"),
            ("fn f(a: box ref int, b: v) -> w { return 0; }", "WrongKind", "box"),
            ("fn f(a: int) -> u from x { return 0; }", "UnknownName", "u"),
            ("fn f(a: int) -> vec ref int from x { return 0; }", "WrongKind", "vec"),
            ("fn f(a: int) -> int from a, x, y { return 0; }", "UnknownName", "x"),
            ("fn f(a: int) -> ref int from a, x { return 0; }", "UnknownName", "x"),
            ("fn f(a: int) -> int from a { return 0; }", "WrongCount", "f"),
            ("fn f(a: int) -> ref int { return x; }", "WrongCount", "f"),
            ("fn f(a: int, b: ref int, c: box int) -> ref int from b, c, a { return 0; }", "WrongKind", "c"),
            ("fn f(a: ref int, b: mut int, c: int) -> mut int from b, a, c { return 0; }", "WrongKind", "a"),
            ("fn f(a: int) -> ref int from a { return 0; } fn g(a: u) -> int { return 0; }", "WrongKind", "a"),
            ("fn f(a: int) -> ref int { return 0; } fn g(a: u) -> int { return 0; }", "WrongCount", "f"),
            ("fn f() -> int { return x; } fn g() -> u { return 0; }", "UnknownName", "u"),
        ])


class BodyTest(unittest.TestCase):

    def check(self, rows, params="i: int, t: bool, p: pair, l: list, v: vec int, b: box pair, m: mut vec pair"):
        for body, word, name in rows:
            with self.subTest(body):
                self.assertEqual(program_error_of(text_of_it(params, body)), (word, name))

    def test_statements_from_left_to_right(self):
        self.check([
            ("show x; show y;", "UnknownName", "x"),
            ("show true + 1; show y;", "WrongKind", "+"),
            ("if t { show x; } else { show y; } show z;", "UnknownName", "x"),
            ("if t { } else { show y; } show z;", "UnknownName", "y"),
            ("while t { show x; } show y;", "UnknownName", "x"),
            ("par { show x; } { show y; } show z;", "UnknownName", "x"),
            ("par { } { show y; } show z;", "UnknownName", "y"),
            ("if x { show y; }", "UnknownName", "x"),
            ("if i { show y; }", "WrongKind", "if"),
            ("while i { show y; }", "WrongKind", "while"),
            ("let i: int = 1; show y;", "DoubleName", "i"),
        ])
        self.assertEqual(program_error_of(text_of_it("", "show x;", "y")), ("UnknownName", "x"))
        self.assertEqual(program_error_of(text_of_it("", "", "y + true")), ("UnknownName", "y"))

    def test_inner_parts_first(self):
        self.check([
            ("show x + true;", "UnknownName", "x"),
            ("show true + x;", "UnknownName", "x"),
            ("show (true + 1) == x;", "WrongKind", "+"),
            ("show (1 < true) == (true + 1);", "WrongKind", "<"),
            ("show !x + true;", "UnknownName", "x"),
            ("show !1 + true;", "WrongKind", "!"),
            ("show box ref x;", "UnknownName", "x"),
            ("show unbox !1;", "WrongKind", "!"),
            ("show box ref m;", "WrongKind", "ref"),
            ("show unbox box ref t;", "WrongKind", "box"),
            ("let a: bool = 1 + true;", "WrongKind", "+"),
            ("show vec vec ref x;", "UnknownName", "x"),
            ("show ref p.x.y;", "UnknownName", "x"),
            ("show *p.one.two;", "WrongKind", "two"),
            ("show ref (*i).x;", "WrongKind", "*"),
            ("show len((*i).x);", "WrongKind", "*"),
        ])

    def test_a_base_ahead_of_its_index(self):
        self.check([
            ("show x[y];", "UnknownName", "x"),
            ("show p.x[y];", "UnknownName", "x"),
            ("show (*i)[y];", "WrongKind", "*"),
            ("show v[0][y];", "UnknownName", "y"),
            ("show v[0][t];", "WrongKind", "["),
            ("show i[y];", "UnknownName", "y"),
            ("show v[y + true];", "UnknownName", "y"),
            ("show v[true + 1].x;", "WrongKind", "+"),
            ("show v[x][y];", "UnknownName", "x"),
            ("show v[t][y];", "WrongKind", "["),
            ("show v[v[t]];", "WrongKind", "["),
            ("show v[b.x];", "WrongKind", "x"),
        ])

    def test_calls_records_and_tags(self):
        self.check([
            ("x(y);", "UnknownName", "x"),
            ("plain(y);", "WrongCount", "plain"),
            ("pair(x);", "WrongCount", "pair"),
            ("none(x);", "WrongCount", "none"),
            ("pair(x, y);", "UnknownName", "x"),
            ("pair(t, y);", "WrongKind", "pair"),
            ("pair(1, y);", "UnknownName", "y"),
            ("pair(1, 1);", "WrongKind", "pair"),
            ("some(t, x);", "WrongKind", "some"),
            ("taken(1, p, ref x, y);", "UnknownName", "x"),
            ("taken(1, p, ref i, y);", "WrongKind", "taken"),
            ("taken(plain(1), p, ref x, y);", "WrongCount", "plain"),
            ("taken(true, plain(1), x, y);", "WrongKind", "taken"),
            ("pair(pair(1), x);", "WrongCount", "pair"),
            ("pair(pair(1, t), none(1));", "WrongKind", "pair"),
            ("pair(plain(), none(1));", "WrongCount", "none"),
        ])

    def test_a_let(self):
        self.check([
            ("let i: x = y;", "UnknownName", "x"),
            ("let i: box ref int = y;", "WrongKind", "box"),
            ("let i: int = y;", "UnknownName", "y"),
            ("let i: int = true + 1;", "WrongKind", "+"),
            ("let i: bool = 1;", "WrongKind", "i"),
            ("let i: int = 1;", "DoubleName", "i"),
            ("let a: bool = 1; show x;", "WrongKind", "a"),
        ])

    def test_the_expression_ahead_of_the_place(self):
        self.check([
            ("x = y;", "UnknownName", "y"),
            ("x = 1 + true;", "WrongKind", "+"),
            ("x = true;", "UnknownName", "x"),
            ("*i = t;", "WrongKind", "*"),
            ("i = t;", "WrongKind", "="),
            ("v[x] = y;", "UnknownName", "y"),
            ("v[x] = t;", "UnknownName", "x"),
            ("v[t] = t;", "WrongKind", "["),
            ("push(x, y);", "UnknownName", "y"),
            ("push(x, t + 1);", "WrongKind", "+"),
            ("push(x, t);", "UnknownName", "x"),
            ("push(i[0], t);", "WrongKind", "["),
            ("push(v, t);", "WrongKind", "push"),
            ("take(x) as i;", "UnknownName", "x"),
            ("take(v[t]) as i;", "WrongKind", "["),
            ("take(i) as i;", "WrongKind", "take"),
            ("take(v) as i;", "DoubleName", "i"),
        ])

    def test_an_opening(self):
        self.check([
            ("open x as (i, i, i);", "UnknownName", "x"),
            ("open pair(x, 1) as (i);", "UnknownName", "x"),
            ("open i as (i);", "WrongKind", "open"),
            ("open *b as (i, i);", "NotWhole", "b"),
            ("open p as (i);", "WrongCount", "pair"),
            ("open p as (i, t);", "DoubleName", "i"),
            ("open p as (a, t);", "DoubleName", "t"),
        ])

    def test_a_match(self):
        rest = "some(a, c) { } both(a, c) { }"
        self.check([
            ("match x { none(i) { } }", "UnknownName", "x"),
            ("match v[t] { none(i) { } }", "WrongKind", "["),
            ("match v[0] { none(i) { } }", "WrongKind", "match"),
            ("match *b { x(i) { } }", "NotWhole", "b"),
            ("match p { x(i) { } }", "WrongKind", "match"),
            ("match ref *b { x(i) { } }", "WrongKind", "match"),
            ("match l { x(i, i) { } }", "UnknownName", "x"),
            ("match l { none { } x { } some { } }", "UnknownName", "x"),
            ("match l { some(i) { show x; } }", "WrongCount", "some"),
            ("match l { some(i, x) { show y; } }", "DoubleName", "i"),
            ("match l { some(x, x) { show y; } }", "DoubleName", "x"),
            ("match l { some(x, y) { show z; } none(i) { } }", "UnknownName", "z"),
            ("match l { some(x, y) { } none(i) { } }", "WrongCount", "none"),
            ("match l { none { show x; } some(i) { } }", "UnknownName", "x"),
            ("match l { none { } some(i) { show x; } both { } }", "WrongCount", "some"),
            ("match l { some(x, y) { } none { } z { } }", "UnknownName", "z"),
            ("match l { some(x, y) { } none { } } show z;", "WrongCount", "list"),
            ("match l { none { } none { show x; } }", "UnknownName", "x"),
            ("match l { none { } " + rest + " none { show true + 1; } }", "WrongKind", "+"),
            ("match l { none { } " + rest + " none { } } show z;", "WrongCount", "list"),
        ])

    def test_a_statement_ahead_of_what_is_behind_it(self):
        self.check([
            ("open i as (a); show x;", "WrongKind", "open"),
            ("show p; show x;", "WrongKind", "show"),
            ("take(v) as i; show x;", "DoubleName", "i"),
            ("i = t; show x;", "WrongKind", "="),
            ("let x: int = y; let y: int = x;", "UnknownName", "y"),
        ])
        self.assertEqual(program_error_of(text_of_it("a: int", "let a: int = 1;", "x")), ("DoubleName", "a"))
        self.assertEqual(program_error_of(text_of_it("a: int", "", "x + true")), ("UnknownName", "x"))

    def test_functions_in_the_order_of_the_text(self):
        one, other = "fn it1() -> int { return x1; }", "fn it2() -> int { return x2; }"
        main = " fn main() -> int { return x3; } "
        self.assertEqual(program_error_of(one + other + main), ("UnknownName", "x1"))
        self.assertEqual(program_error_of(other + main + one), ("UnknownName", "x2"))
        self.assertEqual(program_error_of(main + other + one), ("UnknownName", "x3"))


if __name__ == "__main__":
    unittest.main()
