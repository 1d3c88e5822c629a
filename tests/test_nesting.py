"""Point 1.7: texts that are nested 40 deep."""

import unittest

from helpers import error_of, kind_of, marked, statement_of
from oneowner.errors import Unexpected
from oneowner.parser import parse, parse_expr


class NestingTest(unittest.TestCase):

    DEEP = 40

    def around(self, wrap, tree):
        for _ in range(self.DEEP):
            tree = wrap(tree)
        return tree

    def nested(self, ahead, middle, behind):
        return ahead * self.DEEP + middle + behind * self.DEEP

    def test_kinds(self):
        for word in ("box", "vec", "ref", "mut"):
            tree = self.around(lambda kind: (word, kind), ("int",))
            self.assertEqual(kind_of(self.nested(word + " ", "int", "")), tree)

    def test_expressions(self):
        a, one = ("name", "a"), ("num", 1)
        for ahead, middle, behind, wrap, tree in (
            ("(", "a", ")", lambda tree: tree, a),
            ("!", "a", "", lambda tree: ("not", tree), a),
            ("box ", "a", "", lambda tree: ("box", tree), a),
            ("unbox ", "a", "", lambda tree: ("unbox", tree), a),
            ("*", "a", "", lambda tree: ("deref", tree), a),
            ("", "a", ".a", lambda tree: ("field", tree, "a"), a),
            ("", "a", "[1]", lambda tree: ("index", tree, one), a),
            ("a[", "a", "]", lambda tree: ("index", a, tree), a),
            ("f(", "a", ")", lambda tree: ("call", "f", (tree,)), a),
            ("f(1, ", "a", ", 1)", lambda tree: ("call", "f", (one, tree, one)), a),
            ("(*", "a", ")", lambda tree: ("deref", tree), a),
            ("len(a[", "a", "])", lambda tree: ("len", ("index", a, tree)), a),
            ("", "a", " + 1", lambda tree: ("op", "+", tree, one), a),
            ("", "a", " * 1", lambda tree: ("op", "*", tree, one), a),
            ("1 - (", "a", ")", lambda tree: ("op", "-", one, tree), a),
            ("1 == (", "a", ")", lambda tree: ("op", "==", one, tree), a),
            ("(", "a", " < 1)", lambda tree: ("op", "<", tree, one), a),
        ):
            text = self.nested(ahead, middle, behind)
            with self.subTest(text):
                self.assertEqual(parse_expr(text), self.around(wrap, tree))

    def test_statements(self):
        a, call = ("name", "a"), ("do", ("call", "f", ()))
        for ahead, behind, wrap in (
            ("if a { ", " }", lambda tree: ("if", a, (tree,), ())),
            ("if a { } else { ", " }", lambda tree: ("if", a, (), (tree,))),
            ("while a { ", " }", lambda tree: ("while", a, (tree,))),
            ("match a { a { ", " } }", lambda tree: ("match", "move", a, (("a", (), (tree,)),))),
            ("par { ", " } { }", lambda tree: ("par", (tree,), ())),
            ("par { } { ", " }", lambda tree: ("par", (), (tree,))),
        ):
            text = self.nested(ahead, "f();", behind)
            with self.subTest(text):
                self.assertEqual(statement_of(text), self.around(wrap, call))

    def test_all_of_them_within_each_other(self):
        expr = self.nested("f(", "vec " + self.nested("box ", "int", ""), ")")
        text = self.nested("match a { a { ", "show " + expr + ";", " } }")
        kind = self.around(lambda tree: ("box", tree), ("int",))
        tree = self.around(lambda tree: ("call", "f", (tree,)), ("vec", kind))
        case = self.around(lambda tree: ("match", "move", ("name", "a"), (("a", (), (tree,)),)), ("show", tree))
        self.assertEqual(statement_of(text), case)

    def test_a_wrong_token_deep_within(self):
        text = self.nested("if a { ", "show " + self.nested("(", "", ")") + ";", " }")
        text, place = marked(text.replace("()", "(@)", 1))
        self.assertEqual(error_of(parse, "fn f() -> int {\n" + text), (Unexpected, 2, place[1]))

    def test_many_beside_each_other(self):
        many = 300
        self.assertEqual(len(parse("fn f() -> int { return 0; } " * many)[2]), many)
        self.assertEqual(len(parse("fn f() -> int { " + "f(); " * many + "return 0; }")[2][0][4]), many)
        self.assertEqual(len(parse_expr("f(" + "1, " * many + "1)")[2]), many + 1)


if __name__ == "__main__":
    unittest.main()
