"""Points 1.5 and 1.7: where the tree must be a place, and what begins a statement."""

import unittest

from helpers import error_of, marked
from oneowner.errors import Unexpected
from oneowner.parser import parse, parse_expr


class PlaceRuleTest(unittest.TestCase):

    def check(self, read, ahead, texts, behind):
        for text in texts:
            text, place = marked(ahead + text + behind)
            with self.subTest(text):
                self.assertEqual(error_of(read, text), (Unexpected,) + place)

    def test_what_is_no_place_ahead_of_a_field(self):
        self.check(parse_expr, "", [
            "1@.a", "true@.a", "false@.a", "vec int@.a", "len(a)@.b", "f()@.a", "f(a)\n @.a", "(f(a))@.b",
            "(1)@.a", "(a + b)@.c", "(a == b)@.c", "(!a)@.b", "(box a)@.b", "(unbox a)@.b", "(ref a)@.b",
            "(mut a)@.b", "(vec a)@.b", "((1))@.a", "!f(a)@.b", "box f()@.a", "a + f(b)@.c.d", "ref f()@.a.b",
            "* f()@.a", "g(f(a)@.b, 1.c)",
        ], "")

    def test_what_is_no_place_ahead_of_an_index(self):
        self.check(parse_expr, "", [
            "1@[a]", "true@[a]", "false@[a]", "vec int@[a]", "len(a)@[b]", "f()@[a]", "f(a)\n @[a]",
            "(f(a))@[b]", "(1)@[a]", "(a + b)@[c]", "(!a)@[b]", "(box a)@[b]", "(unbox a)@[b]", "(ref a)@[b]",
            "(mut a)@[b]", "vec box a@[b]", "a.b[f(c)@[d]]", "f(a)@[1][2]", "g(1, true@[a])",
        ], "")

    def test_what_is_no_place_behind_a_star_ref_or_mut(self):
        for word in ("*", "ref ", "mut ", "ref *", "**", "! *", "box ref ", "a + *", "f(a) * mut "):
            self.check(parse_expr, word, [
                "1@", "true@", "vec int@", "len(a)@", "f(a)@", "f(a) @+ b", "1 @* 2", "(a + b)@", "(1) @== a",
                "(f(a))\n  @+ b", "(!a)@", "(ref a)@", "(box a)@",
            ], "")
            self.check(parse_expr, "(" + word, ["1@)", "f(a)@)", "(a < b)@)"], "")

    def test_what_is_no_place_in_len_push_take_and_match(self):
        wrong = ["1@", "true@", "f()@", "len(a)@", "vec int@", "(a + b)@", "(ref a)@", "(f(a)) @", "*f(a)@", "*1@",
                 "((1))@", "a[b][f()@.c]"]
        self.check(parse_expr, "len(", wrong, ")")
        ahead = "fn f() -> int {\n "
        self.check(parse, ahead + "push(", wrong, ", 1); return 0; }")
        self.check(parse, ahead + "take(", wrong, ") as a; return 0; }")
        for word in ("", "ref ", "mut "):
            self.check(parse, ahead + "match " + word, wrong, "{ } return 0; }")

    def test_what_is_no_place_ahead_of_a_set(self):
        for ahead in ("fn f() -> int {\n ", "fn f() -> int { show 1; while a {"):
            self.check(parse, ahead, [
                "f() @= 1;", "(f()) @= 1;", "(1) @= 1;", "(a + b) @= 1;", "(ref a) @= 1;", "(*a == b) @= 1;",
                "*f() @= 1;", "*1 @= 1;", "**f(a) @= 1;", "f(a)@.b = 1;", "(f(a))@[b] = 1;", "(1)@.a = 1;",
                "(1)@;", "(a + b)@;", "(box f())@;", "*f()@;", "*(f())@;", "(len(a))@;", "(true) @= true;",
                "f()@.g();", "f()@();", "f()\n @show 1;", "(f)@(a);", "(f()) @()", "(f) @(a) = 1;",
            ], " return 0; }")

    def test_a_statement_begins_with_a_place_or_a_call_only_by_name_star_or_parenthesis(self):
        for ahead in ("fn f() -> int {\n ", "fn f() -> int { show 1; while a {"):
            self.check(parse, ahead, [
                "@1 = 1;", "@true = 1;", "@len(a) = 1;", "@vec int = 1;", "@!a;", "@box a;", "@unbox a;",
                "@ref a = b;", "@mut a = b;", "@;", "@{ }", "@else { }", "@as a;", "@from a;", "@fn g();",
                "@record a;", "@.a = 1;", "@[a] = 1;", "@+ a;", "@- a;", "@int a;", "@) = 1;",
            ], " return 0; }")

    def test_a_place_behind_which_no_set_stands(self):
        self.check(parse, "fn f() -> int {\n ", [
            "a@;", "a.b@;", "a[b]@;", "*a@;", "(a)@;", "a @b;", "a @== b;", "a @+ b;", "a @* b;", "a @, b = c;",
            "a.b@();", "a[b]@();", "*a @- b = c;", "a = b @= c;", "f() @+ 1;", "f() @f();", "(f()) @{ }",
        ], " return 0; }")

    def test_the_first_wrong_token_counts(self):
        self.check(parse, "", [
            "fn f() -> int { @fn fn", "fn f() -> int { show @; show ; }", "@x y z", "fn f() -> int { return @} }",
            "fn f() -> int { f(@,) = ; }", "fn f() -> int { (1) @= = ; }", "fn f() -> int { let a: int @; let",
        ], "")


if __name__ == "__main__":
    unittest.main()
