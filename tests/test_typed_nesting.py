"""Point 0.5: texts that are nested 40 deep are typed, lowered and printed, too."""

import unittest

from helpers import BOOL, INT, IT, program_error_of, text_of_it
from oneowner.lower import lower
from oneowner.parser import parse
from oneowner.printing import print_program
from oneowner.typed import typed

DEEP = 40


def nested(ahead, middle, behind):
    """A text with this many of the same around it."""
    return ahead * DEEP + middle + behind * DEEP


class NestingTest(unittest.TestCase):

    def test_expressions(self):
        for text, kind in (
            (nested("plain() + (", "a", ")"), INT), (nested("v[", "a", "]"), INT), (nested("!(", "t", ")"), BOOL),
            (nested("same(", "a", ")"), INT), (nested("(", "a", " - 1)"), INT),
            (nested("unbox box (", "a", ")"), INT),
        ):
            with self.subTest(text):
                word = kind[0]
                program = text_of_it("a: int, t: bool, v: vec int", "", text, word) \
                    + " fn same(a: int) -> int { return a; }"
                tree = parse(program)
                self.assertEqual(parse(print_program(tree)), tree)
                function = lower(typed(program))[1][IT]
                self.assertGreaterEqual(len(function[2][0][0]), DEEP)
                self.assertEqual(function[1][-1], kind)

    def test_statements(self):
        for ahead, behind, blocks in (
            ("if t { ", " }", 3), ("if t { } else { ", " }", 3), ("while t { ", " }", 3), ("par { ", " } { }", 3),
            ("par { } { ", " }", 3), ("match ref u { up { ", " } down { } }", 3),
        ):
            text = text_of_it("a: int, t: bool, u: way", nested(ahead, "show " + nested("(1 + ", "a", ")") + ";",
                                                                behind))
            with self.subTest(ahead):
                tree = parse(text)
                self.assertEqual(parse(print_program(tree)), tree)
                self.assertEqual(len(lower(typed(text))[1][IT][2]), 1 + blocks * DEEP)

    def test_kinds(self):
        for word in ("box", "vec"):
            told = nested(word + " ", "int", "")
            self.assertIsNone(program_error_of(text_of_it(f"a: {told}", f"let b: ref {told} = ref a;")))
            self.assertEqual(program_error_of(text_of_it("", f"let b: {told} = 1;")), ("WrongKind", "b"))
            self.assertEqual(program_error_of(text_of_it("", f"let b: {word} ref {told} = 1;")), ("WrongKind", word))

    def test_an_error_deep_within(self):
        text = nested("while t { ", "show " + nested("(1 + ", "x", ")") + ";", " }")
        self.assertEqual(program_error_of(text_of_it("t: bool", text)), ("UnknownName", "x"))


if __name__ == "__main__":
    unittest.main()
