"""Points 2.1, 2.2, 2.6 to 2.8: each error with its word, at each place where it can arise."""

import unittest

from helpers import DECLARED, program_error_of, text_of_it
from oneowner.errors import (
    DoubleName, Endless, NotWhole, ProgramError, UnknownName, WrongCount, WrongKind,
)
from oneowner.parser import parse
from oneowner.typed import check, typed

PARAMS = ("i: int, t: bool, p: pair, h: held, l: list, u: way, b: box int, v: vec int, w: vec pair, "
          "ri: ref int, rp: ref pair, rl: ref list, mi: mut int, mp: mut pair, ml: mut list, bb: box list")
# An expression of each sort of kind, and what its kind is.
EXPRS = {
    "i": "int", "t": "bool", "p": "pair", "h": "held", "l": "list", "u": "way", "b": "box int", "v": "vec int",
    "ri": "ref int", "rp": "ref pair", "mi": "mut int", "mp": "mut pair", "box t": "box bool", "vec bool": "vec bool",
    "ref t": "ref bool", "mut t": "mut bool", "box box 1": "box box int", "ref b": "ref box int",
}

AROUND = (
    ("if t { ", " }"), ("if t { } else { ", " }"), ("while t { ", " }"), ("match u { up { } down { ", " } }"),
    ("par { ", " } { }"), ("par { } { ", " }"),
)
PLACES_OF_EXPRS = (
    ("show ", ";"), ("i = ", ";"), ("push(v, ", ");"), ("if ", " { }"), ("while ", " { }"), ("open ", " as (x1, x2);"),
    ("taken(0, ", ", rp, mut v);"), ("show v[", "];"), ("v[", "] = 1;"), ("let x1: box int = box (", ");"),
    ("show !(", ");"), ("show 1 + (", ");"), ("show (", ") == 1;"), ("let x1: int = unbox (", ");"),
    ("take(v[", "]) as x1;"), ("push(v[", "], 1);"), ("show len(v[", "]);"), ("let x1: ref int = ref v[", "];"),
    ("match ref w[", "] { }"), ("pair(1, ", ");"), ("some(", ", bb);"), ("show h.rows[", "].one;"),
)


class ErrorTest(unittest.TestCase):

    def program(self, word, name, *texts):
        """Each text is that of a program."""
        for text in texts:
            with self.subTest(text):
                self.assertEqual(program_error_of(text), (word, name))

    def declared(self, word, name, *texts):
        """Each text is that of further declarations."""
        self.program(word, name, *[DECLARED + text for text in texts])

    def body(self, word, name, *texts):
        """Each text is one of statements; the first one also stands within other ones."""
        self.program(word, name, *[text_of_it(PARAMS, text) for text in texts])
        for ahead, behind in AROUND:
            self.program(word, name, text_of_it(PARAMS, ahead + texts[0] + behind))

    def expr(self, word, name, *texts):
        """Each text is one of an expression; the first one stands wherever one may stand."""
        self.program(word, name, text_of_it(PARAMS, "", texts[0]))
        self.program(word, name, *[text_of_it(PARAMS, f"let it: int = {text};") for text in texts])
        for ahead, behind in PLACES_OF_EXPRS:
            self.program(word, name, text_of_it(PARAMS, ahead + texts[0] + behind))


class NameTest(ErrorTest):

    def test_names_of_records_variants_tags_and_functions(self):
        for name in ("pair", "held", "list", "way", "none", "some", "both", "up", "down", "plain", "main"):
            self.declared("DoubleName", name, f"fn {name}(x: int) -> bool {{ return true; }}")
        for name in ("pair", "held"):
            self.declared("DoubleName", name, f"record {name} {{ x: int }}", f"variant {name} {{ x }}")
        for name in ("list", "way"):
            self.declared("DoubleName", name, f"variant {name} {{ x }}")
        self.declared("DoubleName", "list", "record list { x: int }")
        self.declared("DoubleName", "pair", "variant pair { x }", "variant x { pair }", "variant x { y, pair(int) }")
        self.declared("DoubleName", "way", "variant x { way }")
        self.declared("DoubleName", "none", "variant x { y, none }", "variant x { none(int, bool) }")
        self.declared("DoubleName", "x", "variant x { x }", "variant y { x, x }", "variant y { x } variant z { x }",
                      "record x { x: int } record x { y: int }", "record x { y: int } variant x { z }",
                      "record x { y: int } fn x() -> int { return 0; }", "variant x { y } fn x() -> int { return 0; }",
                      "variant y { x } fn x() -> int { return 0; }",
                      "fn x() -> int { return 0; } fn x() -> int { return 0; }",
                      "fn x() -> int { return 0; } record x { y: int }",
                      "fn x() -> int { return 0; } variant y { z, x }")

    def test_names_of_fields_and_params(self):
        self.declared("DoubleName", "x", "record y { x: int, x: int }", "record y { x: int, z: bool, x: box y }",
                      "fn y(x: int, x: int) -> int { return 0; }", "fn y(x: int, z: bool, x: y) -> int { return 0; }")

    def test_what_may_have_one_name(self):
        self.assertIsNone(program_error_of(
            "record a { a: int, b: bool } record b { a: bool, main: int, e: int } variant c { d, e(a) } "
            "fn main(a: int, b: int, c: int, main: int) -> int { return a; } fn f(a: a, d: c) -> int { return 0; }"
        ))

    def test_unknown_kinds(self):
        for name in ("x", "none", "some", "plain", "one", "main"):
            self.declared("UnknownName", name, f"record y {{ z: {name} }}", f"record y {{ z: int, z1: box {name} }}",
                          f"variant y {{ z({name}) }}", f"variant y {{ z, z1(int, vec {name}) }}",
                          f"fn y(z: {name}) -> int {{ return 0; }}", f"fn y(z: ref {name}) -> int {{ return 0; }}",
                          f"fn y() -> {name} {{ return 0; }}", f"fn y(z: ref {name}) -> ref {name} {{ return 0; }}")
            self.body("UnknownName", name, f"let y: {name} = 1;", f"let y: box vec {name} = 1;",
                      f"let y: mut {name} = 1;")
            self.expr("UnknownName", name, f"vec {name}", f"vec box {name}", f"len(w[vec {name}])")

    def test_unknown_variables(self):
        for name in ("x", "plain", "pair", "list", "one", "some", "both", "main"):
            self.expr("UnknownName", name, name, name + ".one", name + "[0]", "*" + name, "ref " + name,
                      "mut " + name, "len(" + name + ")", "(*" + name + ").one", "ref " + name + "[0].one")
            self.body("UnknownName", name, name + " = 1;", name + ".one = 1;", "*" + name + " = 1;",
                      f"push({name}, 1);", f"take({name}) as y;", f"match {name} {{ }}", f"match ref *{name} {{ }}")

    def test_a_tag_without_kinds_is_no_place(self):
        for text in ("ref none", "mut up", "none.one", "none[0]", "*none", "len(none)"):
            name = "up" if "up" in text else "none"
            self.expr("UnknownName", name, text)
        self.body("UnknownName", "none", "none = 1;", "match none { none { } some(a, b) { } both(c, d) { } }",
                  "match ref none { }", "push(none, 1);", "take(none) as a;", "none.one = 1;")

    def test_unknown_functions(self):
        for name in ("x", "list", "way", "i", "one"):
            self.expr("UnknownName", name, name + "()", name + "(1)", name + "(plain())")
            self.body("UnknownName", name, name + "();", name + "(1, 2);")

    def test_unknown_fields(self):
        for name in ("x", "item", "pair", "i", "none"):
            self.expr("UnknownName", name, f"p.{name}", f"(*rp).{name}", f"(*mp).{name}", f"w[0].{name}",
                      f"ref p.{name}", f"len(p.{name})", f"*p.{name}.one")
            self.body("UnknownName", name, f"p.{name} = 1;", f"push(p.{name}, 1);", f"match p.{name} {{ }}")

    def test_unknown_tags_in_cases(self):
        for name in ("x", "pair", "list", "plain", "i"):
            self.body("UnknownName", name, f"match l {{ {name} {{ }} }}",
                      f"match ref l {{ none {{ }} {name}(a) {{ }} }}",
                      f"match l {{ none {{ }} some(a, c) {{ }} both(d, e) {{ }} {name} {{ }} }}")

    def test_unknown_params_behind_from(self):
        for behind, name in (("x", "x"), ("a, x", "x"), ("x, a", "x"), ("f", "f"), ("a, main", "main")):
            self.declared("UnknownName", name, f"fn f(a: ref int, b: int) -> ref int from {behind} {{ return a; }}")
        self.declared("UnknownName", "c", "fn f(a: ref int) -> ref int from c { let c: ref int = a; return a; }")
        self.declared("UnknownName", "x", "fn f(a: ref int) -> int from x { return 0; }")

    def test_no_main(self):
        self.program("UnknownName", "main", "", "fn f() -> int { return 0; }", "record main { a: int }",
                     "variant main { a }", "variant a { main }", "fn f(main: int) -> int { return main; }")

    def test_endless(self):
        main = " fn main() -> int { return 0; }"
        self.program("Endless", "a", *[text + main for text in (
            "record a { b: a }", "record a { b: int, c: bool, d: a }", "record a { b: c } record c { d: a }",
            "record a { b: c } record c { d: e } record e { f: int, g: a }",
            "record a { b: c } variant c { d, e(int, a) }", "variant a { b(a) }", "variant a { b, c(int, a) }",
            "variant a { b(c) } variant c { d(a) }", "record a { b: a } record c { d: c }",
            "record c { d: a } record a { b: a }", "variant c { d(c) } record a { b: a }",
            "variant c { d(a) } record a { b: c }", "variant a { b(a) } variant c { d(c) }",
            "record c { d: box a } record a { b: box c, e: a }", "variant c { d(a) } variant a { b, e(a) }",
        )])

    def test_what_holds_itself_within_a_box_or_vec(self):
        main = " fn main() -> int { return 0; }"
        for text in (
            "record a { b: box a }", "record a { b: vec a }", "variant a { b, c(box a) }", "variant a { b(vec box a) }",
            "record a { b: c } record c { d: vec a }", "record a { b: box c } variant c { d(a) }",
            "record a { b: c, d: c, e: c } record c { f: int }",
            "record a { b: c, d: e } record c { f: e } record e { g: int }",
        ):
            with self.subTest(text):
                self.assertIsNone(program_error_of(text + main))


class CountTest(ErrorTest):

    def test_values_of_calls_records_and_tags(self):
        for name, texts in (
            ("plain", ("plain(1)", "plain(i, t)")),
            ("taken", ("taken()", "taken(1)", "taken(1, p, rp)", "taken(1, p, rp, mut v, 2)")),
            ("main", ("main(0)",)),
            ("it", ("it()", "it(1)")),
            ("pair", ("pair()", "pair(1)", "pair(1, t, 1)")),
            ("held", ("held(b, vec pair)",)),
            ("none", ("none(1)", "none(1, 2)")),
            ("some", ("some()", "some(1)", "some(1, bb, 1)")),
            ("up", ("up(t)",)),
        ):
            self.expr("WrongCount", name, *texts)
            self.body("WrongCount", name, *[text + ";" for text in texts])

    def test_names_in_open(self):
        self.body("WrongCount", "pair", "open p as (x);", "open p as (x, y, z);", "open pair(1, t) as (x);")
        self.body("WrongCount", "held", "open h as (x, y);", "open h as (x, y, z, q);")

    def test_names_in_cases(self):
        for how in ("", "ref ", "mut "):
            self.body("WrongCount", "none", f"match {how}l {{ none(x) {{ }} some(x, y) {{ }} both(x, y) {{ }} }}")
            self.body("WrongCount", "some", f"match {how}l {{ none {{ }} some {{ }} both(x, y) {{ }} }}",
                      f"match {how}l {{ none {{ }} some(x) {{ }} both(x, y) {{ }} }}",
                      f"match {how}l {{ none {{ }} some(x, y, z) {{ }} both(x, y) {{ }} }}",
                      f"match {how}l {{ some {{ }} }}")
            self.body("WrongCount", "both", f"match {how}l {{ none {{ }} some(x, y) {{ }} both(x) {{ }} }}")

    def test_cases_in_order(self):
        none, some, both = "none { }", "some(x, y) { }", "both(x, y) { }"
        for how in ("", "ref ", "mut "):
            for cases in ((), (none,), (none, some), (some, none, both), (none, both, some), (none, none, some, both),
                          (none, some, both, both), (some, both), (both, some, none), (none, some, some)):
                self.body("WrongCount", "list", "match " + how + "l { " + " ".join(cases) + " }")
            self.body("WrongCount", "way", "match " + how + "u { up { } }", "match " + how + "u { down { } up { } }")

    def test_from_is_there_or_lacks(self):
        self.declared("WrongCount", "f", *[f"fn f({params}) -> {result} {{ return 0; }}" for params, result in (
            ("a: ref int", "ref int"), ("a: mut int", "mut int"), ("a: ref int", "int from a"), ("", "ref int"),
            ("a: mut int, b: int", "box int from a"), ("a: ref int", "pair from a"), ("a: int", "int from a"),
            ("a: ref int", "vec list from a, a"),
        )])
        self.program("WrongCount", "main", "fn main(a: ref int) -> ref int { return a; }",
                     "fn main(a: int) -> int from a { return a; }")


class WholeTest(ErrorTest):

    def test_places_of_moved_kinds_as_values(self):
        for name, texts in (
            ("h", ("h.item", "h.rows", "h.tail", "h.rows[0]")),
            ("w", ("w[0]", "w[i]")),
            ("bb", ("*bb",)),
            ("rp", ("*rp",)),
            ("mp", ("*mp", "(*mp)")),
            ("ml", ("*ml",)),
        ):
            self.expr("NotWhole", name, *texts)
        self.body("NotWhole", "h", "let x: box int = h.item;", "let x: int = unbox h.item;",
                  "open h.rows[0] as (x, y);",
                  "h.item = h.item;", "let x: box pair = box h.rows[0];", "push(h.rows, h.rows[0]);")

    def test_match_without_a_word(self):
        for place, name in (("h.tail", "h"), ("*bb", "bb"), ("*rl", "rl"), ("*ml", "ml"), ("w[0]", "w"),
                            ("h.item", "h")):
            self.body("NotWhole", name, f"match {place} {{ }}",
                      f"match {place} {{ none {{ }} some(x, y) {{ }} both(x, y) {{ }} }}")

    def test_match_without_a_word_of_a_copied_kind(self):
        self.body("WrongKind", "match", *[f"match {place} {{ }}" for place in (
            "i", "t", "ri", "rl", "p.one", "*b", "v[0]", "(*rp).two", "h.rows[0].one",
        )])

    def test_places_of_copied_kinds_need_not_be_whole(self):
        self.assertIsNone(program_error_of(text_of_it(
            PARAMS, "show *b; show h.rows[0].two; show (*mp).one; let x: box list = bb; match ref *x { none { } "
            "some(y, z) { show *y; } both(c, d) { show (*d).one; } }")))


class KindTest(ErrorTest):

    def test_references_where_data_kinds_stand(self):
        for within in ("ref int", "mut int", "ref pair", "mut vec box int"):
            for word in ("box", "vec", "ref", "mut"):
                kind = word + " " + within
                self.declared("WrongKind", word, f"record x {{ y: {kind} }}", f"variant x {{ y({kind}) }}",
                              f"record x {{ y: box {kind} }}", f"fn x(y: {kind}) -> int {{ return 0; }}",
                              f"fn x() -> {kind} {{ return 0; }}", f"fn x(y: vec {kind}) -> int {{ return 0; }}")
                self.body("WrongKind", word, f"let x: {kind} = 1;", f"let x: vec {kind} = 1;")
                self.expr("WrongKind", word, f"vec {kind}", f"vec box {kind}")
            self.expr("WrongKind", "vec", f"vec {within}", f"len(v[vec {within}])")
            self.declared("WrongKind", "y", f"record x {{ y: {within} }}", f"record x {{ z: int, y: {within} }}",
                          f"variant x {{ y({within}) }}", f"variant x {{ z, y(int, {within}) }}")

    def test_params_behind_from(self):
        for params, result, name in (
            ("a: int", "ref int from a", "a"), ("a: box int", "ref int from a", "a"),
            ("a: ref int, b: pair", "ref int from a, b", "b"), ("a: ref int", "mut int from a", "a"),
            ("a: mut int, b: ref int", "mut int from a, b", "b"), ("a: int", "mut int from a", "a"),
            ("a: int, b: bool", "ref int from b, a", "b"),
        ):
            self.declared("WrongKind", name, f"fn f({params}) -> {result} {{ return 0; }}")

    def test_main(self):
        for kind in ("box int", "vec bool", "pair", "list", "ref int", "mut bool"):
            ahead = "record pair { one: int } variant list { none } fn main("
            self.program("WrongKind", "main", ahead + f"a: {kind}) -> int {{ return 0; }}",
                         ahead + f"b: int, a: {kind}) -> bool {{ return true; }}")
            if kind[:3] not in ("ref", "mut"):
                self.program("WrongKind", "main", ahead + f") -> {kind} {{ return 0; }}")
        self.program("WrongKind", "main", "fn main(a: ref int) -> ref int from a { return a; }")

    def test_operators(self):
        wrong = [text for text, kind in EXPRS.items() if kind != "int"]
        for sign in ("+", "-", "*", "==", "<"):
            self.expr("WrongKind", sign, *[f"({text}) {sign} 1" for text in wrong])
            self.expr("WrongKind", sign, *[f"1 {sign} ({text})" for text in wrong])
        self.expr("WrongKind", "!", *[f"!({text})" for text, kind in EXPRS.items() if kind != "bool"])

    def test_stars(self):
        for place in ("i", "t", "p", "h", "l", "v", "p.one", "*b", "*ri", "v[0]", "h.rows", "(*mp).two"):
            self.expr("WrongKind", "*", f"*{place}", f"ref *{place}", f"len(*{place})", f"(*{place}).one",
                      f"(*{place})[0]")
            self.body("WrongKind", "*", f"*{place} = 1;", f"push(*{place}, 1);", f"match ref *{place} {{ }}")

    def test_fields(self):
        for place in ("i", "t", "l", "b", "v", "ri", "rp", "mp", "*b", "*ri", "v[0]", "h.item", "w"):
            self.expr("WrongKind", "one", f"{place}.one".replace("*b.", "(*b).").replace("*ri.", "(*ri)."))
        self.body("WrongKind", "item", "rp.item = 1;", "v.item = 1;", "push(i.item, 1);", "match l.item { }")

    def test_indexes(self):
        for place in ("i", "t", "p", "l", "b", "ri", "rp", "mp", "h.item", "v[0]", "(*b)"):
            self.expr("WrongKind", "[", f"{place}[0]", f"ref {place}[i]", f"len({place}[0])")
        wrong = [text for text, kind in EXPRS.items() if kind != "int"]
        self.expr("WrongKind", "[", *[f"v[{text}]" for text in wrong], *[f"h.rows[{text}].one" for text in wrong])
        self.body("WrongKind", "[", "i[0] = 1;", "v[t] = 1;", "push(v[p], 1);", "take(i[0]) as x;",
                  "match ref w[t] { }")

    def test_lending(self):
        for word in ("ref", "mut"):
            for place in ("ri", "rp", "rl", "mi", "mp", "ml"):
                self.expr("WrongKind", word, f"{word} {place}")

    def test_boxes(self):
        for text in ("ri", "mp", "ref i", "mut p", "lent(1, rp, ri)"):
            self.expr("WrongKind", "box", f"box {text}", f"box box {text}")
        self.expr("WrongKind", "unbox", *[f"unbox ({text})" for text, kind in EXPRS.items() if kind[:3] != "box"])

    def test_len(self):
        for place in ("i", "t", "p", "l", "b", "ri", "mp", "*b", "v[0]", "h.item", "w[0]"):
            self.expr("WrongKind", "len", f"len({place})")

    def test_values_of_calls_records_and_tags(self):
        for name, values, wanted in (
            ("taken", ("1", "p", "rp", "mut v"), ("int", "pair", "ref pair", "mut vec int")),
            ("lent", ("1", "rp", "ri"), ("int", "ref pair", "ref int")),
            ("pair", ("1", "t"), ("int", "bool")),
            ("held", ("b", "vec pair", "none"), ("box int", "vec pair", "list")),
            ("some", ("1", "bb"), ("int", "box list")),
            ("both", ("t", "p"), ("bool", "pair")),
        ):
            for at in range(len(values)):
                for text in [text for text, kind in EXPRS.items() if kind != wanted[at]]:
                    with_it = ", ".join(values[:at] + (text,) + values[at + 1:])
                    self.program("WrongKind", name, text_of_it(PARAMS, f"show {name}({with_it});"))

    def test_let_set_and_return(self):
        for told in ("int", "bool", "pair", "list", "box int", "vec int", "ref int", "mut int", "ref pair"):
            exprs = [text for text, kind in EXPRS.items() if kind != told]
            self.body("WrongKind", "x", *[f"let x: {told} = {text}; show x.x;" for text in exprs])
            if not told[:3] in ("ref", "mut"):
                self.program("WrongKind", "return", *[text_of_it(PARAMS, "", text, told) for text in exprs])
        for place, told in list(EXPRS.items())[:12]:
            exprs = [text for text, kind in EXPRS.items() if kind != told]
            self.body("WrongKind", "=", *[f"{place} = {text};" for text in exprs])
        self.program("WrongKind", "return", text_of_it(PARAMS, "", "rp", "ref int from rp"),
                     text_of_it(PARAMS, "", "mi", "ref int from mi"), text_of_it(PARAMS, "", "i", "ref int from mi"))
        self.body("WrongKind", "=", "p.one = t;", "*b = t;", "v[0] = p;", "(*mp).two = 1;", "h.item = box t;")

    def test_opening_match_if_while_show(self):
        wrong = [text for text, kind in EXPRS.items() if kind not in ("pair", "held")]
        self.body("WrongKind", "open", *[f"open {text} as (x, y);" for text in wrong])
        self.body("WrongKind", "open", *[f"open {text} as (i);" for text in wrong])
        wrong = [text for text, kind in EXPRS.items() if kind != "bool"]
        self.body("WrongKind", "if", *[f"if {text} {{ show x; }} else {{ show x; }}" for text in wrong])
        self.body("WrongKind", "while", *[f"while {text} {{ show x; }}" for text in wrong])
        wrong = [text for text, kind in EXPRS.items() if kind not in ("int", "bool")]
        self.body("WrongKind", "show", *[f"show {text};" for text in wrong])
        for how in ("", "ref ", "mut "):
            for place in ("i", "t", "p", "h", "b", "v", "ri", "rl", "mp", "ml"):
                self.body("WrongKind", "match", f"match {how}{place} {{ }}", f"match {how}{place} {{ x {{ }} }}")
            if how:
                self.body("WrongKind", "match", *[f"match {how}{place} {{ }}" for place in (
                    "*b", "*rp", "v[0]", "h.item", "h.rows[0]", "(*mp).one",
                )])

    def test_push_and_take(self):
        for place in ("i", "t", "p", "l", "b", "ri", "mp", "*b", "h.item", "w[0]"):
            self.body("WrongKind", "push", f"push({place}, 1);")
            self.body("WrongKind", "take", f"take({place}) as x;")
        self.body("WrongKind", "push", *[f"push(v, {text});" for text, kind in EXPRS.items() if kind != "int"])
        self.body("WrongKind", "push", *[f"push(h.rows, {text});" for text, kind in EXPRS.items() if kind != "pair"])


class ClassTest(unittest.TestCase):

    def test_the_classes_of_the_errors(self):
        for text, error_class, word in (
            ("record a { b: int } record a { b: int }", DoubleName, "a"),
            ("record a { b: c }", UnknownName, "c"),
            ("record a { b: ref int }", WrongKind, "b"),
            ("fn main(a: ref int) -> ref int { return a; }", WrongCount, "main"),
            ("record a { b: a } fn main() -> int { return 0; }", Endless, "a"),
            (text_of_it("b: box list", "show *b;"), NotWhole, "b"),
        ):
            for read in (typed, lambda text: check(parse(text))):
                with self.assertRaises(error_class) as caught:
                    read(text)
                self.assertIs(caught.exception.__class__, error_class)
                self.assertIsInstance(caught.exception, ProgramError)
                self.assertEqual(caught.exception.word, word)


if __name__ == "__main__":
    unittest.main()
