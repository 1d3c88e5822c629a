"""Expressions, places and kinds: points 1.5 and 1.6."""

import unittest

from helpers import error_of, kind_of, marked, statement_of
from oneowner.errors import Unexpected
from oneowner.parser import parse_expr

A, B, C, D = ("name", "a"), ("name", "b"), ("name", "c"), ("name", "d")


def op(sign, one, other):
    return ("op", sign, one, other)


class TreeCase(unittest.TestCase):

    def check(self, rows):
        for text, tree in rows:
            with self.subTest(text):
                self.assertEqual(parse_expr(text), tree)
                self.assertEqual(statement_of("show " + text + ";"), ("show", tree))


class KindTest(unittest.TestCase):

    def test_each_kind(self):
        for text, tree in (
            ("int", ("int",)),
            ("bool", ("bool",)),
            ("pair", ("named", "pair")),
            ("ints", ("named", "ints")),
            ("box int", ("box", ("int",))),
            ("vec bool", ("vec", ("bool",))),
            ("ref pair", ("ref", ("named", "pair"))),
            ("mut int", ("mut", ("int",))),
            ("mut vec box ref x", ("mut", ("vec", ("box", ("ref", ("named", "x")))))),
            ("box box box bool", ("box", ("box", ("box", ("bool",))))),
        ):
            with self.subTest(text):
                self.assertEqual(kind_of(text), tree)
                self.assertEqual(parse_expr("vec " + text), ("vec", tree))


class PrimaryTest(TreeCase):

    def test_numbers_and_truths(self):
        self.check([
            ("0", ("num", 0)), ("7", ("num", 7)), ("4294967295", ("num", 4294967295)),
            ("true", ("truth", True)), ("false", ("truth", False)),
        ])

    def test_numbers_are_no_truths(self):
        self.assertIs(parse_expr("1")[1].__class__, int)
        self.assertIs(parse_expr("0")[1].__class__, int)
        self.assertIs(parse_expr("true")[1], True)
        self.assertIs(parse_expr("false")[1], False)

    def test_names_vec_and_len(self):
        self.check([
            ("a", A),
            ("trues", ("name", "trues")),
            ("vec int", ("vec", ("int",))),
            ("vec vec pair", ("vec", ("vec", ("named", "pair")))),
            ("len(a)", ("len", A)),
            ("len(*a)", ("len", ("deref", A))),
            ("len(a.b[c])", ("len", ("index", ("field", A, "b"), C))),
            ("len((a))", ("len", A)),
        ])

    def test_calls(self):
        self.check([
            ("f()", ("call", "f", ())),
            ("f(1)", ("call", "f", (("num", 1),))),
            ("f(a, b < c, g(), *d)", ("call", "f", (A, op("<", B, C), ("call", "g", ()), ("deref", D)))),
            ("f (a)", ("call", "f", (A,))),
            ("f(box a, ref b, mut c)", ("call", "f", (("box", A), ("ref", B), ("mut", C)))),
            ("f((a), (b))", ("call", "f", (A, B))),
        ])

    def test_parentheses_leave_no_trace(self):
        self.check([
            ("(a)", A), ("(((a)))", A), ("(1)", ("num", 1)), ("(f(a))", ("call", "f", (A,))),
            ("(a + b)", op("+", A, B)), ("((a) + (b))", op("+", A, B)), ("(vec int)", ("vec", ("int",))),
            ("(a).b", ("field", A, "b")), ("((a).b).c", ("field", ("field", A, "b"), "c")),
            ("(*a).b", ("field", ("deref", A), "b")), ("(*a)[b]", ("index", ("deref", A), B)),
            ("*(a)", ("deref", A)), ("*(*(a))", ("deref", ("deref", A))), ("ref (a)", ("ref", A)),
            ("a[(b)]", ("index", A, B)), ("(!a)", ("not", A)), ("!(a)", ("not", A)),
        ])


class PostfixTest(TreeCase):

    def test_fields_and_indexes(self):
        self.check([
            ("a.b", ("field", A, "b")),
            ("a.b.c", ("field", ("field", A, "b"), "c")),
            ("a[b]", ("index", A, B)),
            ("a[b][c]", ("index", ("index", A, B), C)),
            ("a.b[c].d", ("field", ("index", ("field", A, "b"), C), "d")),
            ("a[b < 1]", ("index", A, op("<", B, ("num", 1)))),
            ("a[b[c]]", ("index", A, ("index", B, C))),
        ])

    def test_a_star_reaches_over_the_whole_postfix(self):
        self.check([
            ("*a", ("deref", A)),
            ("**a", ("deref", ("deref", A))),
            ("*a.b", ("deref", ("field", A, "b"))),
            ("*a[b]", ("deref", ("index", A, B))),
            ("**a.b", ("deref", ("deref", ("field", A, "b")))),
            ("(*a).b", ("field", ("deref", A), "b")),
            ("*(*a).b", ("deref", ("field", ("deref", A), "b"))),
        ])


class UnaryTest(TreeCase):

    def test_each_unary_operator(self):
        self.check([
            ("!a", ("not", A)), ("box a", ("box", A)), ("unbox a", ("unbox", A)), ("ref a", ("ref", A)),
            ("mut a", ("mut", A)), ("*a", ("deref", A)),
        ])

    def test_unary_operators_within_each_other(self):
        self.check([
            ("!!a", ("not", ("not", A))),
            ("box box a", ("box", ("box", A))),
            ("unbox unbox a", ("unbox", ("unbox", A))),
            ("box unbox ! box a", ("box", ("unbox", ("not", ("box", A))))),
            ("box ref *a", ("box", ("ref", ("deref", A)))),
            ("!mut a", ("not", ("mut", A))),
            ("unbox *a", ("unbox", ("deref", A))),
            ("ref **a", ("ref", ("deref", ("deref", A)))),
            ("mut *a.b", ("mut", ("deref", ("field", A, "b")))),
            ("box 1", ("box", ("num", 1))),
            ("!true", ("not", ("truth", True))),
            ("unbox f(a)", ("unbox", ("call", "f", (A,)))),
            ("box vec int", ("box", ("vec", ("int",)))),
        ])

    def test_unary_operators_hold_tighter_than_others(self):
        self.check([
            ("!a == b", op("==", ("not", A), B)),
            ("!a + b", op("+", ("not", A), B)),
            ("!a * b", op("*", ("not", A), B)),
            ("box a * b", op("*", ("box", A), B)),
            ("box a < b", op("<", ("box", A), B)),
            ("ref a * b", op("*", ("ref", A), B)),
            ("*a * b", op("*", ("deref", A), B)),
            ("*a + b", op("+", ("deref", A), B)),
            ("box a + b", op("+", ("box", A), B)),
            ("unbox a * b", op("*", ("unbox", A), B)),
            ("ref a + b", op("+", ("ref", A), B)),
            ("mut a < b", op("<", ("mut", A), B)),
            ("a * *b", op("*", A, ("deref", B))),
            ("*a * *b", op("*", ("deref", A), ("deref", B))),
            ("a * !b", op("*", A, ("not", B))),
            ("a + box b", op("+", A, ("box", B))),
            ("!a.b", ("not", ("field", A, "b"))),
            ("box a[b]", ("box", ("index", A, B))),
            ("ref a.b", ("ref", ("field", A, "b"))),
            ("!(a == b)", ("not", op("==", A, B))),
            ("box (a + b)", ("box", op("+", A, B))),
        ])


class OperatorTest(TreeCase):

    def test_each_operator(self):
        self.check([("a " + sign + " b", op(sign, A, B)) for sign in ("==", "<", "+", "-", "*")])

    def test_grouped_to_the_left(self):
        self.check([
            ("a + b + c", op("+", op("+", A, B), C)),
            ("a - b - c", op("-", op("-", A, B), C)),
            ("a - b + c", op("+", op("-", A, B), C)),
            ("a + b - c", op("-", op("+", A, B), C)),
            ("a * b * c", op("*", op("*", A, B), C)),
            ("a * b * c * d", op("*", op("*", op("*", A, B), C), D)),
            ("a - (b - c)", op("-", A, op("-", B, C))),
            ("a * (b * c)", op("*", A, op("*", B, C))),
        ])

    def test_levels(self):
        self.check([
            ("a + b * c", op("+", A, op("*", B, C))),
            ("a * b + c", op("+", op("*", A, B), C)),
            ("a - b * c - d", op("-", op("-", A, op("*", B, C)), D)),
            ("(a + b) * c", op("*", op("+", A, B), C)),
            ("a * (b + c)", op("*", A, op("+", B, C))),
            ("a < b + c", op("<", A, op("+", B, C))),
            ("a + b < c", op("<", op("+", A, B), C)),
            ("a * b == c - d", op("==", op("*", A, B), op("-", C, D))),
            ("(a < b) == c", op("==", op("<", A, B), C)),
            ("a == (b == c)", op("==", A, op("==", B, C))),
            ("(a < b) + c", op("+", op("<", A, B), C)),
        ])

    def test_comparisons_do_not_chain(self):
        for text in ("a < b @< c", "a == b @== c", "a < b + 1 @== c", "a == b * c @< d", "(a < b @< c)",
                     "f(a == b @< c)", "a[b < c @== d]"):
            text, place = marked(text)
            self.assertEqual(error_of(parse_expr, text), (Unexpected,) + place)


class WholeTextTest(unittest.TestCase):

    def test_spaces_newlines_and_comments_do_not_matter(self):
        tree = op("+", ("call", "f", (A, ("deref", B))), ("index", C, ("num", 1)))
        for text in ("f(a,*b)+c[1]", " f ( a , * b ) + c [ 1 ] ", "f\n(a,\n*b)# +\n+c[1]#", "f(a, *b) + c[1]\n"):
            with self.subTest(text):
                self.assertEqual(parse_expr(text), tree)

    def test_a_text_that_goes_on_behind_its_expression(self):
        for text in ("a @b", "a @;", "a @)", "1 @2", "a @= b", "(a) @(b)", "f(a) @(b)", "a.b @(c)", "a @, b",
                     "!a @!", "a\n@}", "len(a) @len(b)", "vec int @int", "box a @as", "true @{"):
            text, place = marked(text)
            with self.subTest(text):
                self.assertEqual(error_of(parse_expr, text), (Unexpected,) + place)

    def test_a_text_that_ends_too_early(self):
        for text in ("", "  ", "# a", "a +", "a ==", "a *", "!", "box", "unbox", "ref", "mut", "*", "(", "(a",
                     "a.", "a[", "a[b", "f(", "f(a", "f(a,", "vec", "vec box", "len", "len(", "len(a"):
            with self.subTest(text):
                self.assertEqual(error_of(parse_expr, text), (Unexpected, 1, len(text) + 1))


if __name__ == "__main__":
    unittest.main()
