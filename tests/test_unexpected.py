"""Point 1.7: the first token that the grammar does not allow."""

import unittest

from helpers import EVERYTHING, SIGNS, end_of, error_of, marked
from oneowner.errors import Unexpected
from oneowner.parser import parse, parse_expr
from oneowner.tokens import KEYWORDS, tokens

END = ""
NOTHING = ""
# Each token that there is; the name and the number stand for all others.
VOCABULARY = KEYWORDS + SIGNS + ("n", "1", END)

TOP = "record variant fn"
KIND = "int bool box vec ref mut n"
PLACE = "1 n true false vec len ( *"
EXPR = PLACE + " ! box unbox ref mut"
STATEMENT = "let open match if while show push take par n * ("
OPERATORS = "* + - == <"
BEHIND_PLACE = ". [ " + OPERATORS
BEHIND_NAME = "( " + BEHIND_PLACE

# Rows of a beginning of a text and the tokens that may come next. Below, each rule of the grammar
# has a row for each place between its tokens.
TOP_ROWS = [
    ("record", "n"),
    ("record a", "{"),
    ("record a {", "n"),
    ("record a { b", ":"),
    ("record a { b :", KIND),
    ("record a { b : int", ", }"),
    ("record a { b : int ,", "n"),
    ("record a { b : int , c", ":"),
    ("record a { b : int , c :", KIND),
    ("record a { b : int , c : d", ", }"),
    ("variant", "n"),
    ("variant a", "{"),
    ("variant a {", "n"),
    ("variant a { b", "( , }"),
    ("variant a { b (", KIND),
    ("variant a { b ( int", ", )"),
    ("variant a { b ( int ,", KIND),
    ("variant a { b ( int , c", ", )"),
    ("variant a { b ( int )", ", }"),
    ("variant a { b ,", "n"),
    ("variant a { b , c", "( , }"),
    ("fn", "n"),
    ("fn f", "("),
    ("fn f (", "n )"),
    ("fn f ( a", ":"),
    ("fn f ( a :", KIND),
    ("fn f ( a : int", ", )"),
    ("fn f ( a : int ,", "n"),
    ("fn f ( a : int , b", ":"),
    ("fn f ( a : int , b :", KIND),
    ("fn f ( a : int , b : c", ", )"),
    ("fn f ( )", "->"),
    ("fn f ( a : int )", "->"),
    ("fn f ( ) ->", KIND),
    ("fn f ( ) -> int", "from {"),
    ("fn f ( ) -> a", "from {"),
    ("fn f ( ) -> int from", "n"),
    ("fn f ( ) -> int from a", ", {"),
    ("fn f ( ) -> int from a ,", "n"),
    ("fn f ( ) -> int from a , b", ", {"),
    ("fn f ( ) -> int {", STATEMENT + " return"),
    ("fn f ( ) -> int { show 1 ;", STATEMENT + " return"),
    ("fn f ( ) -> int { return", EXPR),
    ("fn f ( ) -> int { return 0", OPERATORS + " ;"),
    ("fn f ( ) -> int { return a", BEHIND_NAME + " ;"),
    ("fn f ( ) -> int { return 0 ;", "}"),
    ("record a { b :  box", KIND),
    ("record a { b :  vec", KIND),
    ("record a { b :  ref", KIND),
    ("record a { b :  mut", KIND),
    ("record a { b :  box box", KIND),
    ("record a { b :  box int", ", }"),
    ("record a { b :  bool", ", }"),
    ("variant a { b ( vec", KIND),
    ("fn f ( a : mut", KIND),
    ("fn f ( ) -> ref", KIND),
]

# Programs that are whole; the end may stand behind them, too.
WHOLE_ROWS = [
    ("", TOP),
    ("record a { b : int }", TOP),
    ("variant a { b }", TOP),
    ("variant a { b ( int ) , c }", TOP),
    ("fn f ( ) -> int { return 0 ; }", TOP),
    ("fn f ( ) -> int { return 0 ; } record a { b : int }", TOP),
]

STATEMENT_ROWS = [
    ("let", "n"),
    ("let a", ":"),
    ("let a :", KIND),
    ("let a : int", "="),
    ("let a : box", KIND),
    ("let a : b", "="),
    ("let a : int =", EXPR),
    ("let a : int = 1", OPERATORS + " ;"),
    ("let a : int = b", BEHIND_NAME + " ;"),
    ("open", EXPR),
    ("open a", BEHIND_NAME + " as"),
    ("open a as", "("),
    ("open a as (", "n"),
    ("open a as ( b", ", )"),
    ("open a as ( b ,", "n"),
    ("open a as ( b , c", ", )"),
    ("open a as ( b )", ";"),
    ("match", PLACE + " ref mut"),
    ("match ref", PLACE),
    ("match mut", PLACE),
    ("match *", PLACE),
    ("match a", "( . [ {"),
    ("match ref a", "( . [ {"),
    ("match mut a", "( . [ {"),
    ("match * a", "( . [ {"),
    ("match a . b", ". [ {"),
    ("match a {", "n }"),
    ("match a { b", "( {"),
    ("match a { b (", "n"),
    ("match a { b ( c", ", )"),
    ("match a { b ( c ,", "n"),
    ("match a { b ( c , d", ", )"),
    ("match a { b ( c )", "{"),
    ("match a { b {", STATEMENT + " }"),
    ("match a { b { show 1 ;", STATEMENT + " }"),
    ("match a { b { }", "n }"),
    ("match a { b ( c ) { } d", "( {"),
    ("match a { }", STATEMENT + " return"),
    ("match a { b { } }", STATEMENT + " return"),
    ("if", EXPR),
    ("if a", BEHIND_NAME + " {"),
    ("if true", OPERATORS + " {"),
    ("if a {", STATEMENT + " }"),
    ("if a { show 1 ;", STATEMENT + " }"),
    ("if a { }", STATEMENT + " return else"),
    ("if a { } else", "{"),
    ("if a { } else {", STATEMENT + " }"),
    ("if a { } else { show 1 ;", STATEMENT + " }"),
    ("if a { } else { }", STATEMENT + " return"),
    ("while", EXPR),
    ("while a", BEHIND_NAME + " {"),
    ("while a < 1", "* + - {"),
    ("while a {", STATEMENT + " }"),
    ("while a { show 1 ;", STATEMENT + " }"),
    ("while a { }", STATEMENT + " return"),
    ("show", EXPR),
    ("show 1", OPERATORS + " ;"),
    ("show a", BEHIND_NAME + " ;"),
    ("show 1 ;", STATEMENT + " return"),
    ("push", "("),
    ("push (", PLACE),
    ("push ( a", "( . [ ,"),
    ("push ( * a", "( . [ ,"),
    ("push ( a ,", EXPR),
    ("push ( a , 1", OPERATORS + " )"),
    ("push ( a , 1 )", ";"),
    ("take", "("),
    ("take (", PLACE),
    ("take ( a", "( . [ )"),
    ("take ( a )", "as"),
    ("take ( a ) as", "n"),
    ("take ( a ) as b", ";"),
    ("par", "{"),
    ("par {", STATEMENT + " }"),
    ("par { show 1 ;", STATEMENT + " }"),
    ("par { }", "{"),
    ("par { } {", STATEMENT + " }"),
    ("par { } { show 1 ;", STATEMENT + " }"),
    ("par { } { }", STATEMENT + " return"),
    ("a", "( . [ ="),
    ("a (", EXPR + " )"),
    ("a ( 1", OPERATORS + " , )"),
    ("a ( b", BEHIND_NAME + " , )"),
    ("a ( 1 ,", EXPR),
    ("a ( 1 , 1", OPERATORS + " , )"),
    ("a ( )", ";"),
    ("a ( 1 )", ";"),
    ("a ( ) ;", STATEMENT + " return"),
    ("( a ( ) )", ";"),
    ("(", EXPR),
    ("( a", BEHIND_NAME + " )"),
    ("( a )", ". [ ="),
    ("( * a )", ". [ ="),
    ("( 1", OPERATORS + " )"),
    ("( 1 )", NOTHING),
    ("( a + b )", NOTHING),
    ("*", PLACE),
    ("* *", PLACE),
    ("* a", "( . [ ="),
    ("* ( a )", ". [ ="),
    ("* a ( )", NOTHING),
    ("a .", "n"),
    ("a . b", ". [ ="),
    ("a [", EXPR),
    ("a [ 1", OPERATORS + " ]"),
    ("a [ b", BEHIND_NAME + " ]"),
    ("a [ 1 ]", ". [ ="),
    ("a =", EXPR),
    ("a = 1", OPERATORS + " ;"),
    ("a = b", BEHIND_NAME + " ;"),
    ("a = 1 ;", STATEMENT + " return"),
]

EXPR_ROWS = [
    ("", EXPR),
    ("!", EXPR),
    ("box", EXPR),
    ("unbox", EXPR),
    ("ref", PLACE),
    ("mut", PLACE),
    ("*", PLACE),
    ("ref *", PLACE),
    ("mut *", PLACE),
    ("* *", PLACE),
    ("! *", PLACE),
    ("! a", BEHIND_NAME + " ;"),
    ("box a", BEHIND_NAME + " ;"),
    ("ref a", BEHIND_NAME + " ;"),
    ("mut a . b", BEHIND_PLACE + " ;"),
    ("* a", BEHIND_NAME + " ;"),
    ("* ( a )", BEHIND_PLACE + " ;"),
    ("1", OPERATORS + " ;"),
    ("true", OPERATORS + " ;"),
    ("false", OPERATORS + " ;"),
    ("vec", KIND),
    ("vec box", KIND),
    ("vec int", OPERATORS + " ;"),
    ("vec a", OPERATORS + " ;"),
    ("len", "("),
    ("len (", PLACE),
    ("len ( *", PLACE),
    ("len ( a", "( . [ )"),
    ("len ( a . b", ". [ )"),
    ("len ( a )", OPERATORS + " ;"),
    ("len ( 1", NOTHING),
    ("len ( a ( )", NOTHING),
    ("a", BEHIND_NAME + " ;"),
    ("a .", "n"),
    ("a . b", BEHIND_PLACE + " ;"),
    ("a . b . c", BEHIND_PLACE + " ;"),
    ("a [", EXPR),
    ("a [ b", BEHIND_NAME + " ]"),
    ("a [ 1", OPERATORS + " ]"),
    ("a [ 1 < 2", "* + - ]"),
    ("a [ 1 ]", BEHIND_PLACE + " ;"),
    ("a (", EXPR + " )"),
    ("a ( b", BEHIND_NAME + " , )"),
    ("a ( 1 ,", EXPR),
    ("a ( 1 , b", BEHIND_NAME + " , )"),
    ("a ( )", OPERATORS + " ;"),
    ("a ( 1 )", OPERATORS + " ;"),
    ("(", EXPR),
    ("( a", BEHIND_NAME + " )"),
    ("( 1", OPERATORS + " )"),
    ("( 1 == 1", "* + - )"),
    ("( a )", BEHIND_PLACE + " ;"),
    ("( * a )", BEHIND_PLACE + " ;"),
    ("( 1 )", OPERATORS + " ;"),
    ("( a ( ) )", OPERATORS + " ;"),
    ("( a + b )", OPERATORS + " ;"),
    ("1 +", EXPR),
    ("1 -", EXPR),
    ("1 *", EXPR),
    ("1 ==", EXPR),
    ("1 <", EXPR),
    ("1 + 1", OPERATORS + " ;"),
    ("1 - 1", OPERATORS + " ;"),
    ("1 * 1", OPERATORS + " ;"),
    ("1 == 1", "* + - ;"),
    ("1 < 1", "* + - ;"),
    ("1 < 1 + 1", "* + - ;"),
    ("1 == a", "( . [ * + - ;"),
    ("a * b", BEHIND_NAME + " ;"),
    ("a + b . c", BEHIND_PLACE + " ;"),
]


class TableTest(unittest.TestCase):

    def check(self, read, text, allowed, last):
        """Puts each token behind a text: just those that are not allowed are the unexpected ones.

        With a token of last the text may be whole.
        """
        place = (2, 3)
        for token in VOCABULARY:
            error = error_of(read, text + "\n  " + token)
            if token not in allowed:
                self.assertEqual(error, (Unexpected,) + place, (text, token))
            elif token == END:
                self.assertIsNone(error, (text, token))
            elif error is not None:
                # An allowed token leads on: what is missing then is missing at the end.
                self.assertEqual(error, (Unexpected, 2, 3 + len(token)), (text, token))
            else:
                self.assertIn(token, last, (text, token))

    def test_programs(self):
        for text, allowed in TOP_ROWS:
            self.check(parse, text, allowed.split(), ["}"])

    def test_whole_programs(self):
        for text, allowed in WHOLE_ROWS:
            self.check(parse, text, allowed.split() + [END], [])

    def test_statements(self):
        for text, allowed in STATEMENT_ROWS:
            self.check(parse, "fn f ( ) -> int { " + text, allowed.split(), [])

    def test_statements_in_a_block(self):
        for text, allowed in STATEMENT_ROWS:
            within = ["}" if token == "return" else token for token in allowed.split()]
            self.check(parse, "fn f ( ) -> int { while a { " + text, within, [])

    def test_expressions_in_a_statement(self):
        for text, allowed in EXPR_ROWS:
            self.check(parse, "fn f ( ) -> int { show " + text, allowed.split(), [])

    def test_expressions_alone(self):
        for text, allowed in EXPR_ROWS:
            whole = [END if token == ";" else token for token in allowed.split()]
            self.check(parse_expr, text, whole, ["1", "n", "true", "false", ")", "]", "int", "bool"])


class CutTest(unittest.TestCase):

    def test_a_text_cut_off_behind_each_token(self):
        ends_of_wholes = (
            "record pair { one: int, two: box pair }", "variant list { none, some(int, vec list) }",
            "return ref a.two;\n}", "return 0;\n}",
        )
        for token in tokens(EVERYTHING)[:-1]:
            rows = EVERYTHING.split("\n")[:token[2]]
            rows[-1] = rows[-1][:token[3] - 1] + token[1]
            text = "\n".join(rows)
            error = error_of(parse, text)
            if text.endswith(ends_of_wholes):
                self.assertIsNone(error, text)
            else:
                self.assertEqual(error, (Unexpected,) + end_of(text), text)
                self.assertEqual(error_of(parse, text + "\n # more\n "), (Unexpected, len(rows) + 2, 2), text)

    def test_a_text_without_one_of_its_tokens(self):
        for text in (
            "@f(a: int) -> int { show a; return 1; }", "fn @(a: int) -> int { show a; return 1; }",
            "fn f @a: int) -> int { show a; return 1; }", "fn f(@: int) -> int { show a; return 1; }",
            "fn f(a @int) -> int { show a; return 1; }", "fn f(a: @) -> int { show a; return 1; }",
            "fn f(a: int @-> int { show a; return 1; }", "fn f(a: int) @int { show a; return 1; }",
            "fn f(a: int) -> @{ show a; return 1; }", "fn f(a: int) -> int @show a; return 1; }",
            "fn f(a: int) -> int { a@; return 1; }", "fn f(a: int) -> int { show @; return 1; }",
            "fn f(a: int) -> int { show a @return 1; }", "fn f(a: int) -> int { show a; @1; }",
            "fn f(a: int) -> int { show a; return @; }", "fn f(a: int) -> int { show a; return 1 @}",
            "fn f(a: int) -> int { show a; return 1;\n@",
        ):
            text, place = marked(text)
            with self.subTest(text):
                self.assertEqual(error_of(parse, text), (Unexpected,) + place)


if __name__ == "__main__":
    unittest.main()
