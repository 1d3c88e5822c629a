"""Point 1.9: where expressions stand in parentheses, and that parsing what was printed gives the same tree."""

import unittest

from oneowner.parser import parse_expr
from oneowner.printing import print_expr

A, B, C = ("name", "a"), ("name", "b"), ("name", "c")
SIGNS = ("==", "<", "+", "-", "*")
# For each operator: which ones stand in parentheses on its left and on its right.
WITHIN_LEFT = {"==": ("==", "<"), "<": ("==", "<"), "+": ("==", "<"), "-": ("==", "<"), "*": ("==", "<", "+", "-")}
WITHIN_RIGHT = {
    "==": ("==", "<"), "<": ("==", "<"), "+": ("==", "<", "+", "-"), "-": ("==", "<", "+", "-"), "*": SIGNS,
}
HIGHEST = (
    ("num", 0), ("num", 4294967295), ("truth", True), ("truth", False), A, ("field", A, "b"), ("index", A, B),
    ("call", "f", ()), ("call", "f", (A, B)), ("vec", ("int",)), ("vec", ("box", ("named", "a"))), ("len", A),
)
PREFIXED = (
    ("not", A), ("box", A), ("unbox", A), ("ref", A), ("mut", A), ("deref", A),
)


class LevelTest(unittest.TestCase):

    def printed(self, tree, text):
        with self.subTest(text):
            self.assertEqual(print_expr(tree), text)
            self.assertEqual(parse_expr(text), tree)

    def test_each_expression(self):
        for text, tree in (
            ("0", ("num", 0)),
            ("4294967295", ("num", 4294967295)),
            ("true", ("truth", True)),
            ("false", ("truth", False)),
            ("a", A),
            ("!a", ("not", A)),
            ("box a", ("box", A)),
            ("unbox a", ("unbox", A)),
            ("ref a", ("ref", A)),
            ("mut a", ("mut", A)),
            ("*a", ("deref", A)),
            ("a.b", ("field", A, "b")),
            ("a[b]", ("index", A, B)),
            ("vec bool", ("vec", ("bool",))),
            ("vec vec a", ("vec", ("vec", ("named", "a")))),
            ("len(a)", ("len", A)),
            ("len(*a)", ("len", ("deref", A))),
            ("len((*a).b)", ("len", ("field", ("deref", A), "b"))),
            ("f()", ("call", "f", ())),
            ("f(a)", ("call", "f", (A,))),
            ("f(a, b + c, g())", ("call", "f", (A, ("op", "+", B, C), ("call", "g", ())))),
        ):
            self.printed(tree, text)

    def test_operators_on_the_left(self):
        for sign in SIGNS:
            for within in SIGNS:
                text = "a " + within + " b"
                if within in WITHIN_LEFT[sign]:
                    text = "(" + text + ")"
                self.printed(("op", sign, ("op", within, A, B), C), text + " " + sign + " c")

    def test_operators_on_the_right(self):
        for sign in SIGNS:
            for within in SIGNS:
                text = "b " + within + " c"
                if within in WITHIN_RIGHT[sign]:
                    text = "(" + text + ")"
                self.printed(("op", sign, A, ("op", within, B, C)), "a " + sign + " " + text)

    def test_what_is_higher_than_operators(self):
        for sign in SIGNS:
            for tree in HIGHEST + PREFIXED:
                text = print_expr(tree)
                self.printed(("op", sign, tree, C), text + " " + sign + " c")
                self.printed(("op", sign, C, tree), "c " + sign + " " + text)

    def test_operators_below_prefixes(self):
        for sign in SIGNS:
            tree = ("op", sign, A, B)
            self.printed(("not", tree), "!(a " + sign + " b)")
            self.printed(("box", tree), "box (a " + sign + " b)")
            self.printed(("unbox", tree), "unbox (a " + sign + " b)")

    def test_what_is_higher_below_prefixes(self):
        for tree in HIGHEST + PREFIXED:
            text = print_expr(tree)
            self.printed(("not", tree), "!" + text)
            self.printed(("box", tree), "box " + text)
            self.printed(("unbox", tree), "unbox " + text)

    def test_places_behind_ref_mut_and_stars(self):
        for text, place in (
            ("a", A),
            ("*a", ("deref", A)),
            ("**a", ("deref", ("deref", A))),
            ("a.b", ("field", A, "b")),
            ("*a.b", ("deref", ("field", A, "b"))),
            ("(*a).b", ("field", ("deref", A), "b")),
            ("a[b]", ("index", A, B)),
            ("*a[b]", ("deref", ("index", A, B))),
            ("(*a)[b]", ("index", ("deref", A), B)),
            ("(**a)[b].c", ("field", ("index", ("deref", ("deref", A)), B), "c")),
        ):
            self.printed(place, text)
            self.printed(("ref", place), "ref " + text)
            self.printed(("mut", place), "mut " + text)
            self.printed(("deref", place), "*" + text)
            self.printed(("not", place), "!" + text)
            self.printed(("box", place), "box " + text)
            self.printed(("unbox", place), "unbox " + text)
            self.printed(("not", ("ref", place)), "!ref " + text)
            self.printed(("op", "*", place, place), text + " * " + text)

    def test_places_ahead_of_fields_and_indexes(self):
        for text, place in (
            ("a", A), ("a.b", ("field", A, "b")), ("a[1]", ("index", A, ("num", 1))),
            ("(*a)", ("deref", A)), ("(**a)", ("deref", ("deref", A))),
        ):
            self.printed(("field", place, "c"), text + ".c")
            self.printed(("index", place, C), text + "[c]")

    def test_no_parentheses_within_brackets_and_calls(self):
        for tree in HIGHEST + PREFIXED + tuple(("op", sign, A, B) for sign in SIGNS):
            text = print_expr(tree)
            self.printed(("index", A, tree), "a[" + text + "]")
            self.printed(("call", "f", (tree, tree)), "f(" + text + ", " + text + ")")

    def test_each_tree_three_deep_is_read_again(self):
        places = [A, ("deref", A), ("field", A, "b")]
        for _ in range(2):
            places = [A] + [
                wrapped for place in places
                for wrapped in (("deref", place), ("field", place, "b"), ("index", place, B))
            ]
        trees = [A, ("num", 1)]
        for _ in range(2):
            trees = [A, ("num", 1)] + [
                wrapped for tree in trees
                for wrapped in (
                    ("not", tree), ("box", tree), ("unbox", tree), ("index", A, tree), ("deref", ("index", A, tree)),
                    ("call", "f", (tree,)), *[("op", sign, tree, other) for sign in SIGNS for other in trees],
                )
            ]
        self.assertGreater(len(trees), 500)
        for tree in trees + places + [("ref", place) for place in places] + [("len", place) for place in places]:
            self.assertEqual(parse_expr(print_expr(tree)), tree)

    def test_40_deep(self):
        tree = A
        for _ in range(40):
            tree = ("op", "-", A, tree)
        self.printed(tree, "a - (" * 39 + "a - a" + ")" * 39)
        tree = A
        for _ in range(40):
            tree = ("not", tree)
        self.printed(tree, "!" * 40 + "a")


if __name__ == "__main__":
    unittest.main()
