"""Texts, rows, columns and tokens: points 1.1 to 1.4."""

import unittest

from helpers import SIGNS, error_of, marked
from oneowner.errors import BadCharacter, BadNumber, Unexpected
from oneowner.parser import parse, parse_expr
from oneowner.tokens import KEYWORDS, tokens

LETTERS = "abcdefghijklmnopqrstuvwxyzABCDEFGHIJKLMNOPQRSTUVWXYZ"
BEGINNERS = LETTERS + "0123456789" + "{}()[],;:.=+-*<!" + "# "


def pairs_of(text):
    """The kinds and texts of the tokens ahead of the end."""
    return [token[:2] for token in tokens(text)[:-1]]


def texts_of(text):
    return [token[1] for token in tokens(text)[:-1]]


class PlaceTest(unittest.TestCase):

    def test_empty_text(self):
        self.assertEqual(tokens(""), [("end", "", 1, 1)])

    def test_end_is_the_place_behind_the_last_character(self):
        for text, row, column in (
            (" ", 1, 2), ("   ", 1, 4), ("\n", 2, 1), ("\n\n", 3, 1), ("\n  ", 2, 3), ("# ab", 1, 5),
            ("#", 1, 2), ("#\n", 2, 1), ("# ab\n #", 2, 3),
        ):
            with self.subTest(text):
                self.assertEqual(tokens(text), [("end", "", row, column)])
        self.assertEqual(tokens("ab")[-1], ("end", "", 1, 3))
        self.assertEqual(tokens("ab ")[-1], ("end", "", 1, 4))
        self.assertEqual(tokens("ab\n")[-1], ("end", "", 2, 1))

    def test_end_stands_once_and_last(self):
        for text in ("", "a", "a b\nc", "a # b", "if\n\n"):
            with self.subTest(text):
                kinds = [token[0] for token in tokens(text)]
                self.assertEqual(kinds.count("end"), 1)
                self.assertEqual(kinds[-1], "end")

    def test_rows_and_columns_of_several_rows(self):
        text = "fn  ab12\n\n  = 12 # no\n->x\n"
        self.assertEqual(tokens(text), [
            ("keyword", "fn", 1, 1), ("name", "ab12", 1, 5), ("sign", "=", 3, 3), ("number", "12", 3, 5),
            ("sign", "->", 4, 1), ("name", "x", 4, 3), ("end", "", 5, 1),
        ])

    def test_columns_beside_each_other(self):
        self.assertEqual(tokens("a==12;"), [
            ("name", "a", 1, 1), ("sign", "==", 1, 2), ("number", "12", 1, 4), ("sign", ";", 1, 6),
            ("end", "", 1, 7),
        ])


class KindTest(unittest.TestCase):

    def test_keywords_stand_in_their_order(self):
        self.assertEqual(KEYWORDS, (
            "record", "variant", "fn", "let", "open", "as", "match", "ref", "mut", "if", "else", "while",
            "show", "push", "take", "par", "return", "true", "false", "box", "unbox", "vec", "len", "int",
            "bool", "from",
        ))

    def test_each_keyword(self):
        for word in KEYWORDS:
            with self.subTest(word):
                self.assertEqual(tokens(word), [("keyword", word, 1, 1), ("end", "", 1, len(word) + 1)])

    def test_names_that_are_nearly_keywords(self):
        for word in KEYWORDS:
            for name in (word + "s", word + "1", word + "_", "x" + word, word.upper(), word.title(), word[:-1]):
                if name not in KEYWORDS:
                    with self.subTest(name):
                        self.assertEqual(pairs_of(name), [("name", name)])

    def test_names(self):
        for name in list(LETTERS) + ["a0", "a_", "a__b", "Z9z_", "main", LETTERS, "a" * 500]:
            with self.subTest(name):
                self.assertEqual(tokens(name), [("name", name, 1, 1), ("end", "", 1, len(name) + 1)])

    def test_numbers(self):
        for number in (
            "0", "1", "9", "10", "999", "123456789", "1234567890", "4294967294", "4294967295",
        ):
            with self.subTest(number):
                self.assertEqual(tokens(number), [("number", number, 1, 1), ("end", "", 1, len(number) + 1)])

    def test_each_sign(self):
        for sign in SIGNS:
            with self.subTest(sign):
                self.assertEqual(tokens(" " + sign), [("sign", sign, 1, 2), ("end", "", 1, len(sign) + 2)])


class SeparationTest(unittest.TestCase):

    def test_of_two_signs_the_longer_one_is_taken(self):
        for text, signs in (
            ("==", ["=="]), ("= =", ["=", "="]), ("=\n=", ["=", "="]), ("===", ["==", "="]),
            ("====", ["==", "=="]), ("->", ["->"]), ("-->", ["-", "->"]), ("--", ["-", "-"]),
            ("!=", ["!", "="]), ("!==", ["!", "=="]), ("<=", ["<", "="]), ("<==", ["<", "=="]),
            ("=-", ["=", "-"]), ("=->", ["=", "->"]), ("**", ["*", "*"]), ("<-", ["<", "-"]),
            ("({[]})", ["(", "{", "[", "]", "}", ")"]), ("..", [".", "."]), ("::", [":", ":"]),
        ):
            with self.subTest(text):
                self.assertEqual(texts_of(text), signs)
                self.assertEqual({token[0] for token in tokens(text)[:-1]}, {"sign"})

    def test_an_arrow_with_a_space_is_none(self):
        self.assertEqual(error_of(tokens, "- >"), (BadCharacter, 1, 3))

    def test_words_extend_as_long_as_they_go(self):
        self.assertEqual(pairs_of("letx"), [("name", "letx")])
        self.assertEqual(pairs_of("let x"), [("keyword", "let"), ("name", "x")])
        self.assertEqual(pairs_of("a1b2"), [("name", "a1b2")])
        self.assertEqual(pairs_of("a 1"), [("name", "a"), ("number", "1")])
        self.assertEqual(pairs_of("12 34"), [("number", "12"), ("number", "34")])
        self.assertEqual(pairs_of("0 0"), [("number", "0"), ("number", "0")])
        self.assertEqual(pairs_of("a.0"), [("name", "a"), ("sign", "."), ("number", "0")])
        self.assertEqual(pairs_of("1.5"), [("number", "1"), ("sign", "."), ("number", "5")])
        self.assertEqual(pairs_of("-1"), [("sign", "-"), ("number", "1")])
        self.assertEqual(pairs_of("f(x)"), [("name", "f"), ("sign", "("), ("name", "x"), ("sign", ")")])
        self.assertEqual(pairs_of("if\nif"), [("keyword", "if"), ("keyword", "if")])

    def test_comments(self):
        self.assertEqual(tokens("a#b\nc"), [("name", "a", 1, 1), ("name", "c", 2, 1), ("end", "", 2, 2)])
        self.assertEqual(tokens("a # b # c\n"), [("name", "a", 1, 1), ("end", "", 2, 1)])
        self.assertEqual(tokens("a#"), [("name", "a", 1, 1), ("end", "", 1, 3)])
        self.assertEqual(tokens("#\na"), [("name", "a", 2, 1), ("end", "", 2, 2)])
        self.assertEqual(tokens("a # end"), [("name", "a", 1, 1), ("end", "", 1, 8)])
        self.assertEqual(tokens("##\n#\n1"), [("number", "1", 3, 1), ("end", "", 3, 2)])
        self.assertEqual(tokens("=#\n="), [("sign", "=", 1, 1), ("sign", "=", 2, 1), ("end", "", 2, 2)])

    def test_a_comment_is_not_examined(self):
        everything = "".join(chr(code) for code in range(ord(" "), ord("~") + 1)) + " 007 _x 4294967296 1a"
        self.assertEqual(tokens("#" + everything), [("end", "", 1, len(everything) + 2)])
        self.assertEqual(tokens("a #" + everything + "\nb")[1], ("name", "b", 2, 1))


class ErrorTest(unittest.TestCase):

    def check(self, error, text):
        text, place = marked(text)
        self.assertEqual(error_of(tokens, text), (error,) + place, text)

    def test_bad_numbers(self):
        for number in (
            "4294967296", "4294967300", "9999999999", "10000000000", "00", "01", "007", "00000000000",
            "04294967295", "1a", "0x1", "1_000", "1_", "12if", "0_", "1e5", "9Z", "1" * 5000, "0" * 5000,
        ):
            for text in ("@" + number, "a = @" + number + ";", "a\n  @" + number + "\nb", "f(@" + number + ")"):
                self.check(BadNumber, text)

    def test_each_other_character(self):
        others = [chr(code) for code in range(ord(" "), ord("~") + 1) if chr(code) not in BEGINNERS]
        self.assertEqual("".join(others), "\"$%&'/>?@\\^_`|~")
        for char in others:
            for ahead in ("", "a ", "a", "a\n ", "=", "12 ", "12 #\n"):
                if char == "_" and ahead == "a":
                    continue
                with self.subTest(ahead + char):
                    row = ahead.count("\n") + 1
                    column = len(ahead) - ahead.rfind("\n")
                    self.assertEqual(error_of(tokens, ahead + char), (BadCharacter, row, column))
                    self.assertEqual(error_of(tokens, ahead + char + "b"), (BadCharacter, row, column))

    def test_an_underscore_begins_no_token(self):
        for text in ("@_", "@_a", "@__", "a @_b", "(@_)", "@_1"):
            self.check(BadCharacter, text)

    def test_the_first_error_from_the_left_is_raised(self):
        self.check(BadNumber, "a @01 $")
        self.check(BadCharacter, "a @$ 01")
        self.check(BadNumber, "@4294967296\n_")
        self.check(BadCharacter, "@_\n4294967296")
        self.check(BadCharacter, "1 @& 2 | 3")
        self.check(BadNumber, "1 @02 03")
        self.check(BadNumber, "@1_$")
        self.check(BadCharacter, "# $ 01\n@~ # 01")

    def test_they_are_raised_ahead_of_unexpected(self):
        for read in (parse, parse_expr):
            self.assertEqual(error_of(read, "fn fn ; ] $"), (BadCharacter, 1, 11))
            self.assertEqual(error_of(read, "} } }\n01"), (BadNumber, 2, 1))
            self.assertEqual(error_of(read, "} } }\n# 01 $"), (Unexpected, 1, 1))
        self.assertEqual(error_of(parse, "fn f() -> int { return 1; } _"), (BadCharacter, 1, 29))
        self.assertEqual(error_of(parse_expr, "a + + 1a"), (BadNumber, 1, 7))

    def test_the_parser_raises_them_with_their_places(self):
        self.assertEqual(error_of(parse, "fn main() -> int {\n  return 4294967296;\n}"), (BadNumber, 2, 10))
        self.assertEqual(error_of(parse, "fn main() -> int {\n  return a > b;\n}"), (BadCharacter, 2, 12))


class ValueTest(unittest.TestCase):
    """Point 0.4 for tokens."""

    def test_tokens_are_a_list_of_tuples(self):
        found = tokens("fn f1 12 ==")
        self.assertIs(found.__class__, list)
        for token in found:
            self.assertEqual([member.__class__ for member in token], [str, str, int, int])
            self.assertIs(token.__class__, tuple)

    def test_keywords_are_a_tuple(self):
        self.assertIs(KEYWORDS.__class__, tuple)

    def test_later_changes_to_the_list_have_no_effect(self):
        first = tokens("a b")
        first.append("more")
        first[0] = None
        self.assertEqual(tokens("a b"), [("name", "a", 1, 1), ("name", "b", 1, 3), ("end", "", 1, 4)])
        self.assertEqual(parse_expr("a"), ("name", "a"))


if __name__ == "__main__":
    unittest.main()
