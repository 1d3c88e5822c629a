"""Points 4.1 and 4.7: the right form of functions and programs, with its bounds."""

import unittest

from helpers import (
    BOOK, BOOL, DECLARED, HELD, INT, LIST, PAIR, deep_kind, deep_thing, longer, replaced, text_of_it,
)
from mir_helpers import NOTHING, OTHERS, RETURN, ZERO, program_of, put
from oneowner.lower import lower
from oneowner.mir import is_mir
from oneowner.typed import typed

MAIN = (0, (INT,), (NOTHING,), ())
EMPTY = ((), ())
NEVER = (None, -1, 2 ** 32, "x")
REF, MUT = ("ref", INT), ("mut", INT)


class FunctionTest(unittest.TestCase):

    def right(self, *functions):
        for function in functions:
            with self.subTest(function):
                self.assertIs(is_mir((BOOK, (MAIN, function), 0)), True)

    def wrong(self, *functions):
        for function in functions:
            with self.subTest(function):
                self.assertIs(is_mir((BOOK, (MAIN, function), 0)), False)

    def test_params(self):
        for params in (0, 1, 2):
            self.right((params, (INT, BOOL, PAIR), (NOTHING,), ()))
        for params in (3, 4, -1, True, False, None, "1", (1,), 2 ** 32):
            self.wrong((params, (INT, BOOL, PAIR), (NOTHING,), ()))
        self.right((0, (INT,), (NOTHING,), ()))
        self.wrong((1, (INT,), (NOTHING,), ()), (0, (), (NOTHING,), ()))

    def test_kinds_of_locals(self):
        for kind in (INT, BOOL, PAIR, HELD, LIST, ("box", INT), ("vec", PAIR), REF, ("mut", LIST), deep_kind("box", 11),
                     ("ref", deep_kind("vec", 10))):
            self.right((0, (INT, kind), (NOTHING,), ()), (1, (INT, kind), (NOTHING,), ()))
        for kind in (None, "int", (), 0, ("record", 2), ("variant", True), ("ref", REF), ("box", MUT),
                     deep_kind("box", 12),
                     ("ref", deep_kind("vec", 11)), ("named", "pair"), ("int", 0)):
            self.wrong((0, (INT, kind), (NOTHING,), ()), (1, (INT, kind), (NOTHING,), ()), (0, (kind,), (NOTHING,), ()))
        self.wrong((0, None, (NOTHING,), ()), (0, INT, (NOTHING,), ()), (0, "int", (NOTHING,), ()))

    def test_blocks(self):
        self.right((0, (INT,), (NOTHING, NOTHING), ()))
        for blocks in ((), None, NOTHING, (None,), (RETURN,), ((),), (((), RETURN, ()),), (((),),), ((RETURN, ()),),
                       ((None, RETURN),), ((ZERO, RETURN),), (((None,), RETURN),), (("", RETURN),), ((0, RETURN),),
                       (((), None),), (NOTHING, None), (NOTHING, ((), ("go", 2))), ((("drop", 0), RETURN),)):
            self.wrong((0, (INT,), blocks, ()))

    def test_how_many_locals_and_blocks(self):
        for many, right in ((199, True), (200, True), (201, False), (1000, False)):
            for function in ((0, (INT,) * many, (NOTHING,), ()), (many - 1, (BOOL,) * many, (NOTHING,), ()),
                             (0, (INT,), (NOTHING,) * many, ()), (0, (INT,) * 200, (NOTHING,) * many, ())):
                self.assertIs(is_mir((BOOK, (MAIN, function), 0)), right)
        statements = (put(0, ("use", ZERO)),) * 1000
        self.right((0, (INT,), ((statements, RETURN),), ()))

    def test_the_last_numbers_there_are(self):
        last = (0, (INT,) * 200, (((put(199, ("use", ZERO)),), ("go", 199)),) + (NOTHING,) * 199, ())
        self.assertIs(is_mir((BOOK, (MAIN, last), 0)), True)
        for other in ((0, (INT,) * 200, (((put(200, ("use", ZERO)),), ("go", 199)),) + (NOTHING,) * 199, ()),
                      (0, (INT,) * 200, (((put(199, ("use", ZERO)),), ("go", 200)),) + (NOTHING,) * 199, ())):
            self.assertIs(is_mir((BOOK, (MAIN, other), 0)), False)

    def test_from_of_a_reference(self):
        self.right((1, (REF, REF), (NOTHING,), (1,)), (1, (REF, MUT), (NOTHING,), (1,)),
                   (1, (MUT, MUT), (NOTHING,), (1,)),
                   (3, (REF, REF, INT, ("mut", PAIR)), (NOTHING,), (1,)),
                   (3, (REF, REF, INT, ("mut", PAIR)), (NOTHING,), (3,)),
                   (3, (REF, REF, INT, ("mut", PAIR)), (NOTHING,), (1, 3)), (2, (MUT, MUT, MUT), (NOTHING,), (1, 2)))
        self.wrong((1, (REF, REF), (NOTHING,), ()), (1, (MUT, MUT), (NOTHING,), ()), (0, (REF,), (NOTHING,), ()),
                   (1, (REF, INT), (NOTHING,), (1,)), (1, (REF, ("box", INT)), (NOTHING,), (1,)),
                   (1, (MUT, REF), (NOTHING,), (1,)),
                   (2, (MUT, MUT, REF), (NOTHING,), (1, 2)), (2, (REF, REF, INT), (NOTHING,), (1, 2)),
                   (1, (REF, REF, REF), (NOTHING,), (2,)), (1, (REF, REF, REF), (NOTHING,), (1, 2)),
                   (1, (REF, REF), (NOTHING,), (0,)), (1, (REF, REF), (NOTHING,), (0, 1)),
                   (2, (REF,) * 3, (NOTHING,), (2, 1)),
                   (2, (REF,) * 3, (NOTHING,), (1, 1)), (1, (REF, REF), (NOTHING,), (True,)),
                   (1, (REF, REF), (NOTHING,), 1),
                   (1, (REF, REF), (NOTHING,), None), (1, (REF, REF), (NOTHING,), (None,)),
                   (1, (REF, REF), (NOTHING,), ("1",)),
                   (1, (REF, REF), (NOTHING,), (3,)), (1, (REF, REF), (NOTHING,), (-1,)),
                   (1, (REF, REF), (NOTHING,), ((1,),)))

    def test_from_of_other_kinds(self):
        for kind in (INT, BOOL, PAIR, ("box", INT), ("vec", INT), LIST):
            self.right((1, (kind, REF), (NOTHING,), ()))
            self.wrong((1, (kind, REF), (NOTHING,), (1,)), (1, (kind, MUT), (NOTHING,), (1,)),
                       (1, (kind, REF), (NOTHING,), None))

    def test_other_things(self):
        self.wrong(None, True, 0, "main", (), (0,), (0, (INT,)), (0, (INT,), (NOTHING,)),
                   (0, (INT,), (NOTHING,), (), ()),
                   ((INT,), 0, (NOTHING,), ()), (MAIN,))


class ProgramTest(unittest.TestCase):

    def test_right_programs(self):
        for program in ((EMPTY, (MAIN,), 0), (BOOK, OTHERS, 0), (BOOK, (MAIN,) * 3, 2)):
            self.assertIs(is_mir(program), True)

    def test_other_things(self):
        for thing in (None, True, 0, "x", (), (EMPTY,), (EMPTY, (MAIN,)), (EMPTY, (MAIN,), 0, 0), (EMPTY, MAIN, 0),
                      (EMPTY, (), 0), (EMPTY, None, 0), ((MAIN,), EMPTY, 0), (EMPTY, "main", 0),
                      (EMPTY, (MAIN, None), 0),
                      (EMPTY, (None, MAIN), 1), (None, (MAIN,), 0), ((), (MAIN,), 0)):
            with self.subTest(thing):
                self.assertIs(is_mir(thing), False)
        self.assertIs(is_mir(deep_thing(5000)), False)
        self.assertIs(is_mir((EMPTY, deep_thing(5000), 0)), False)
        self.assertIs(is_mir(program_of(deep_thing(5000))), False)

    def test_the_book_is_right(self):
        for book in ((((("ref", INT),),), ()), (((("record", 0),),), ()), ((), ((),)), (((("record", 1),),), ()),
                     (((INT,) * 21,), ())):
            self.assertIs(is_mir((book, (MAIN,), 0)), False)
        self.assertIs(is_mir((EMPTY, (MAIN, (0, (PAIR,), (NOTHING,), ())), 0)), False)

    def test_the_index_of_main(self):
        for main in (0, 1, 2):
            self.assertIs(is_mir((EMPTY, (MAIN,) * 3, main)), True)
        for main in (3, -1, True, False, None, "0", (0,)):
            self.assertIs(is_mir((EMPTY, (MAIN,) * 3, main)), False)

    def test_how_many_functions(self):
        for many, right in ((1, True), (59, True), (60, True), (61, False), (300, False)):
            self.assertIs(is_mir((EMPTY, (MAIN,) * many, 0)), right)
        call = (0, (INT,), (((("call", 0, 59, ()),), RETURN),), ())
        self.assertIs(is_mir((EMPTY, (call,) * 60, 59)), True)
        self.assertIs(is_mir((EMPTY, (call,) * 59, 0)), False)

    def test_the_kinds_of_main(self):
        for kind, right in ((INT, True), (BOOL, True), (PAIR, False), (("box", INT), False), (("vec", BOOL), False),
                            (REF, False), (MUT, False), (LIST, False)):
            self.assertIs(is_mir((BOOK, ((1, (INT, kind), (NOTHING,), ()),), 0)), right)
            self.assertIs(is_mir((BOOK, ((2, (BOOL, INT, kind), (NOTHING,), ()),), 0)), right)
            self.assertIs(is_mir((BOOK, ((1, (INT, INT, kind), (NOTHING,), ()),), 0)), True)
            if kind not in (REF, MUT):
                self.assertIs(is_mir((BOOK, ((1, (kind, INT), (NOTHING,), ()),), 0)), right)
                self.assertIs(is_mir((BOOK, (MAIN, (1, (kind, kind), (NOTHING,), ())), 0)), True)
        self.assertIs(is_mir((BOOK, ((1, (REF, REF), (NOTHING,), (1,)),), 0)), False)

    def test_functions_may_be_used_ahead_of_where_they_stand(self):
        caller = (0, (INT,), (((("call", 0, 1, (ZERO,)),), RETURN),), ())
        self.assertIs(is_mir((EMPTY, (caller, (1, (INT, INT), (NOTHING,), ())), 0)), True)
        self.assertIs(is_mir((EMPTY, (caller, (1, (BOOL, INT), (NOTHING,), ())), 0)), False)
        self.assertIs(is_mir((EMPTY, (caller, (1, (INT, BOOL), (NOTHING,), ())), 0)), False)
        self.assertIs(is_mir((EMPTY, (caller, (0, (INT, INT), (NOTHING,), ())), 0)), False)

    def test_what_is_made_of_texts(self):
        texts = [DECLARED, "fn main() -> int { return 0; }"]
        texts.append("fn main(a: int) -> bool { let b: vec box int = vec box int; push(b, box a); "
                     "show *b[0]; return true; }")
        texts.append(text_of_it(
            "i: int, t: bool, p: pair, h: held, l: list, b: box int, w: vec box vec int, mp: mut pair, rl: ref list",
            "match l { none { } some(a, c) { show a; } both(d, e) { open e as (f, g); } } par { *b = i; } { show t; } "
            "while i < 3 { match ref *rl { none { } some(j, k) { show *j + i; } both(j, k) { show (*k).two; } } } "
            "match mut h.tail { none { } some(j, k) { *j = 1; **k = none; } both(j, k) { *k = p; } } "
            "take(w) as x; push(*w[i], unbox b); taken(1, p, ref *mp, mut *w[len(w)]); "
            "it(i, t, p, h, l, b, w, mp, rl); "
            "if t { par { } { par { plain(); } { } } } else { let y: ref int = lent(1, ref p, ref i); i = *y; }",
        ))
        for text in texts:
            with self.subTest(text):
                self.assertIs(is_mir(lower(typed(text))), True)

    def test_something_else_at_each_place(self):
        text = ("record pair { one: int, two: bool } variant way { up, down(int, box pair) } "
                "fn it(a: ref vec way, b: way) -> ref way from a { match b { up { show 1; } down(c, d) { drop1(d); } } "
                "return ref (*a)[1]; } fn drop1(e: box pair) -> pair { return unbox e; } "
                "fn main() -> int { par { } { } return 0; }")
        program = lower(typed(text))
        self.assertIs(is_mir(program), True)
        for other in [*replaced(program, NEVER), *longer(program, NEVER)]:
            self.assertIs(is_mir(other), False)
        for other in replaced(program, (True, False)):
            self.assertIs(is_mir(other), False)


if __name__ == "__main__":
    unittest.main()
