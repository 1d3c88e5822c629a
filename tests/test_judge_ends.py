"""Point 5.7, "result" and "kept", the order of the words and of the statements, "paper", and 5.8."""

import unittest

from helpers import BOOK, BOOL, INT, LIST, PAIR, deep_thing
from judge_helpers import EMPTY, page, refusal, refusal_of_text, refusal_with, with_page
from mir_helpers import DEREF, JOIN, RETURN, TRUE, ZERO, copied, field, main_of, put, straight, whole
from oneowner.errors import OwnerError, Refused
from oneowner.judge import judge, taken
from oneowner.papers import best_paper

REF, MUT = ("ref", INT), ("mut", INT)
ZERO_0, ZERO_1 = put(0, ("use", ZERO)), put(1, ("use", ZERO))
MAIN = (0, (INT,), (((ZERO_0,), RETURN),), ())
NEW_PAIR = ("record", 0, (ZERO, TRUE))


class ResultTest(unittest.TestCase):

    def check(self, wanted, params, kinds, lenders, *statements):
        function = (params, kinds, ((statements, RETURN),), lenders)
        with self.subTest(statements):
            self.assertEqual(refusal((BOOK, (MAIN, function), 0)),
                             None if wanted is None else (1, 0, len(statements), wanted))

    def test_params(self):
        kinds = (REF, REF, REF, REF)
        self.check(None, 3, kinds, (1,), put(0, ("use", copied(1))))
        self.check("result", 3, kinds, (1,), put(0, ("use", copied(2))))
        self.check(None, 3, kinds, (1, 2), put(0, ("use", copied(2))))
        self.check("result", 3, kinds, (1, 2), put(0, ("use", copied(3))))
        self.check(None, 3, kinds, (1, 2), put(3, ("use", copied(1))), put(0, ("use", copied(3))))

    def test_owners(self):
        self.check("result", 2, (REF, REF, INT), (1,), put(0, ("lend", "ref", whole(2))))
        self.check("result", 2, (REF, REF, PAIR), (1,), put(0, ("lend", "ref", field(2, 0))))
        self.check("result", 2, (MUT, MUT, ("box", INT)), (1,), put(0, ("lend", "mut", (2, (DEREF,)))))
        self.check("result", 1, (REF, REF, INT, REF), (1,), put(2, ("use", ZERO)), put(3, ("lend", "ref", whole(2))),
                   put(0, ("use", copied(3))))

    def test_places_through_references(self):
        kinds = (MUT, ("mut", PAIR), ("mut", PAIR), ("mut", PAIR))
        way = (DEREF, ("field", 0))
        self.check(None, 2, kinds, (1,), put(0, ("lend", "mut", (1, way))))
        self.check("result", 2, kinds, (1,), put(0, ("lend", "mut", (2, way))))
        self.check(None, 2, kinds, (1, 2), put(0, ("lend", "mut", (2, way))))
        self.check(None, 2, kinds, (2,), put(3, ("lend", "mut", (2, (DEREF,)))), put(0, ("lend", "mut", (3, way))))
        self.check("result", 2, kinds, (1,), put(3, ("lend", "mut", (2, (DEREF,)))), put(0, ("lend", "mut", (3, way))))
        # What is lent through a reference to an owner is lent from the owner.
        kinds = (REF, REF, INT, REF)
        self.check("result", 2, kinds, (1,), put(3, ("lend", "ref", whole(2))), put(0, ("lend", "ref", (3, (DEREF,)))))

    def test_calls(self):
        lender = (2, (REF, REF, REF), (((put(0, ("use", copied(1))),), RETURN),), (1,))
        for operands, lenders, wanted in (
            ((1, 2), (1,), None), ((2, 1), (1,), "result"), ((2, 1), (2,), None), ((2, 1), (1, 2), None),
        ):
            function = (2, (REF, REF, REF), (((("call", 0, 1, tuple(copied(at) for at in operands)),), RETURN),),
                        lenders)
            self.assertEqual(refusal((BOOK, (MAIN, lender, function), 0)),
                             None if wanted is None else (2, 0, 1, wanted))

    def test_on_one_of_two_ways(self):
        for second, wanted in ((copied(1), None), (copied(2), (1, 3, 0, "result"))):
            blocks = (((), ("branch", TRUE, 1, 2)), ((put(0, ("use", copied(1))),), ("go", 3)),
                      ((put(0, ("use", second)),), ("go", 3)), ((), RETURN))
            self.assertEqual(refusal((BOOK, (MAIN, (2, (REF, REF, REF), blocks, (1,))), 0)), wanted)

    def test_other_results(self):
        self.assertIsNone(refusal(straight((INT, INT, REF), ZERO_0, ZERO_1, put(2, ("lend", "ref", whole(1))))))

    def test_what_the_paper_says_is_held(self):
        function = (2, (REF, REF, REF, INT), (((put(0, ("use", copied(1))),), ("go", 1)), ((), RETURN)), (1,))
        program = (BOOK, (MAIN, function), 0)
        best = best_paper(program)
        self.assertIsNone(refusal_with(program, best))
        held = dict(best[1][1][2])
        self.assertEqual(held, {0: ((-1, 1),), 1: ((-1, 1),), 2: ((-1, 2),)})
        for pairs, wanted in (
            (((-1, 1), (-1, 2)), (1, 1, 0, "result")), (((-1, 1), (-1, 3)), None), (((-1, 0), (-1, 1)), None),
            (((-1, 1), (0, 0)), None),
        ):
            more = tuple(sorted({**held, 0: pairs}.items()))
            self.assertEqual(refusal_with(program, with_page(best, 1, 1, 2, more)), wanted)


class KeptTest(unittest.TestCase):

    def check(self, wanted, kinds, *statements, params=0):
        function = (params, kinds, ((statements, RETURN),), ())
        with self.subTest(statements):
            self.assertEqual(refusal((BOOK, (MAIN, function), 0)), wanted and (1, 0, len(statements), "kept"))

    def test_each_kind(self):
        for kind, rvalue in (
            (PAIR, NEW_PAIR), (LIST, ("variant", 0, 0, ())), (("box", INT), ("box", ZERO, INT)),
            (("vec", INT), ("vec", INT)),
        ):
            self.check("kept", (INT, kind), ZERO_0, put(1, rvalue))
            self.check("kept", (INT, kind), ZERO_0, params=1)
            for word in ("drop", "end"):
                self.check(None, (INT, kind), ZERO_0, put(1, rvalue), (word, 1))
                self.check(None, (INT, kind), ZERO_0, (word, 1), params=1)
            self.check(None, (kind, kind), put(1, rvalue), put(0, ("use", ("move", 1))))
        for kind, rvalue in ((INT, ("use", ZERO)), (BOOL, ("use", TRUE)), (REF, ("lend", "ref", whole(0))),
                             (MUT, ("lend", "mut", whole(0)))):
            self.check(None, (INT, kind), ZERO_0, put(1, rvalue))

    def test_params(self):
        self.check(None, (INT, INT, BOOL, REF, MUT), ZERO_0, params=4)
        self.check("kept", (INT, INT, BOOL, REF, PAIR), ZERO_0, params=4)

    def test_the_result_itself(self):
        self.check(None, (PAIR, PAIR), put(0, NEW_PAIR))
        self.check(None, (("vec", INT),), put(0, ("vec", INT)))

    def test_what_was_moved_is_not_kept(self):
        self.check(None, (INT, PAIR, INT, BOOL), ("open", 1, (0, 3)), params=1)
        self.check(None, (INT, ("box", INT)), put(0, ("unbox", 1)), params=1)
        self.check("kept", (INT, ("box", INT), ("box", INT)), ZERO_0, put(2, ("use", ("move", 1))), params=1)

    def test_what_may_be_there(self):
        for ending, wanted in (((), (0, 3, 1, "kept")), ((("end", 1),), None)):
            program = main_of(
                (INT, ("box", INT)), ((), ("branch", TRUE, 1, 2)), ((put(1, ("box", ZERO, INT)),), ("go", 3)),
                ((), ("go", 3)),
                ((ZERO_0,) + ending, RETURN),
            )
            self.assertEqual(refusal(program), wanted)

    def test_what_the_paper_says_may_be_there(self):
        program = main_of((INT, PAIR, INT), ((ZERO_0,), ("go", 1)), ((), RETURN))
        best = best_paper(program)
        self.assertIsNone(refusal_with(program, with_page(best, 0, 1, 1, (0, 2))))
        self.assertEqual(refusal_with(program, with_page(best, 0, 1, 1, (0, 1))), (0, 1, 0, "kept"))

    def test_functions_that_never_return(self):
        self.assertIsNone(refusal(main_of((INT, PAIR), ((put(1, NEW_PAIR),), ("go", 0)), ((), RETURN))))


class OrderTest(unittest.TestCase):

    def test_there_ahead_of_fixed_and_lent(self):
        kinds = (INT, INT, REF, MUT, INT)
        ahead = (ZERO_0, ZERO_1, put(2, ("lend", "ref", whole(0))), put(3, ("lend", "mut", whole(1))))
        using = ("set", (3, (DEREF,)), ("use", ZERO))
        # 4 is not there; 2 is fixed; 1 is lent.
        for statement, wanted in (
            (("set", (2, (DEREF,)), ("op", "+", copied(1), copied(4))), "there"),
            (("set", (2, (DEREF,)), ("use", copied(1))), "fixed"),
            (put(0, ("use", copied(1))), "lent"),
            (put(0, ("op", "+", copied(1), copied(4))), "there"),
            (("set", (2, (DEREF,)), ("use", copied(4))), "there"),
        ):
            self.assertEqual(refusal(straight(kinds, *ahead, statement, using)), (0, 0, 4, wanted))

    def test_a_return(self):
        kinds = (REF, REF, PAIR, MUT)
        box = put(2, NEW_PAIR)
        own = put(0, ("lend", "ref", field(2, 0)))
        for statements, wanted in (
            ((box,), "there"), ((box, own), "result"), ((box, put(0, ("use", copied(1)))), "kept"),
            ((box, put(0, ("use", copied(1))), ("end", 2)), None),
        ):
            function = (1, kinds, ((statements, RETURN),), (1,))
            self.assertEqual(refusal((BOOK, (MAIN, function), 0)), wanted and (1, 0, len(statements), wanted))

    def test_a_par(self):
        show, never = (("show", ZERO),), ((ZERO_1,), ("go", 1))
        end = ((ZERO_0,), RETURN)
        for first, second, wanted in (
            (never, (show + (ZERO_1,), JOIN), "join"), (((ZERO_1,), JOIN), (show + (ZERO_1,), JOIN), "apart"),
            (((ZERO_1,), JOIN), (show, JOIN), "show"),
        ):
            self.assertEqual(refusal(main_of((INT, INT), ((), ("par", 1, 2, 3)), first, second, end)),
                             (0, 0, 0, wanted))

    def test_a_par_is_looked_at_ahead_of_its_sides(self):
        end = ((ZERO_0,), RETURN)
        wrong = put(0, ("use", copied(1)))
        self.assertEqual(refusal(main_of((INT, INT), ((), ("par", 1, 2, 3)), ((wrong,), JOIN), ((wrong,), JOIN), end)),
                         (0, 0, 0, "apart"))
        self.assertEqual(refusal(main_of((INT, INT), ((), ("go", 2)), end, ((), ("par", 3, 4, 1)), ((wrong,), JOIN),
                                         ((wrong,), JOIN))), (0, 2, 0, "apart"))
        self.assertEqual(refusal(main_of((INT, INT), ((), ("go", 4)), ((wrong,), JOIN), ((wrong,), JOIN), end,
                                         ((), ("par", 1, 2, 3)))), (0, 1, 0, "there"))

    def test_statements_blocks_and_functions_in_order(self):
        wrong, other = put(0, ("use", copied(1))), ("show", copied(1))
        self.assertEqual(refusal(straight((INT, INT), ZERO_0, other, wrong)), (0, 0, 1, "there"))
        blocks = (((), ("branch", TRUE, 3, 2)), ((wrong,), ("go", 1)), ((ZERO_0, wrong), RETURN), ((wrong,), ("go", 2)))
        self.assertEqual(refusal(main_of((INT, INT), *blocks)), (0, 2, 1, "there"))
        bad = (0, (INT, INT), (((wrong,), RETURN),), ())
        good = (0, (INT, INT), (((ZERO_0,), RETURN),), ())
        for functions, wanted in (
            ((good, bad, bad), (1, 0, 0, "there")), ((bad, good, bad), (0, 0, 0, "there")),
            ((good, good, bad), (2, 0, 0, "there")),
            ((good, good, good), None),
        ):
            for main in range(3):
                self.assertEqual(refusal((BOOK, functions, main)), wanted)

    def test_the_way_comes_last(self):
        program = main_of((INT, BOOL), ((ZERO_0, put(1, ("use", TRUE)), ("drop", 1)), ("branch", copied(1), 1, 1)),
                          ((), RETURN))
        self.assertEqual(refusal(program), (0, 0, 3, "there"))


class PaperTest(unittest.TestCase):

    program = (BOOK, (MAIN, (0, (INT, INT), (((put(0, ("use", copied(1))),), ("go", 1)), ((), RETURN)), ())), 0)

    def test_the_form(self):
        best = best_paper(self.program)
        self.assertEqual(refusal_with(self.program, best), (1, 0, 0, "there"))
        for paper, wanted in (
            (None, (0, 0)), (True, (0, 0)), (7, (0, 0)), ("paper", (0, 0)), ((), (0, 0)), (best[:1], (0, 0)),
            (best + best, (0, 0)), (deep_thing(3000), (0, 0)), ((best[0], ()), (1, 0)), ((best[0], None), (1, 0)),
            ((best[0], best[1][:1]), (1, 0)), (((), best[1]), (0, 0)), (with_page(best, 1, 1, 0, (2,)), (1, 0)),
            (with_page(best, 1, 1, 3, (1,)), (1, 0)), (with_page(best, 1, 0, 2, ((1, ((0, 0),)),)), (1, 0)),
            (with_page(best, 1, 0, 0, deep_thing(3000)), (1, 0)),
        ):
            self.assertEqual(refusal_with(self.program, paper), wanted + (-1, "paper"))

    def test_what_does_not_hold(self):
        best = best_paper(self.program)
        self.assertEqual(best, ((EMPTY,), (EMPTY, page((0,)))))
        for block, at, member, wanted in (
            (0, 0, (1,), (1, 0)), (1, 0, (0, 1), (1, 1)), (1, 1, (), (1, 1)), (1, 1, (1,), (1, 1)),
        ):
            self.assertEqual(refusal_with(self.program, with_page(best, 1, block, at, member)), wanted + (-1, "paper"))

    def test_ahead_of_all_else(self):
        wrong = (0, (INT, INT), (((put(0, ("use", copied(1))),), RETURN),), ())
        program = (BOOK, (wrong, MAIN), 1)
        best = best_paper(program)
        self.assertEqual(refusal_with(program, best), (0, 0, 0, "there"))
        self.assertEqual(refusal_with(program, with_page(best, 1, 0, 0, (0,))), (1, 0, -1, "paper"))

    def test_the_error(self):
        with self.assertRaises(Refused) as raised:
            judge(self.program, None)
        error = raised.exception
        self.assertIsInstance(error, OwnerError)
        self.assertIsInstance(error, ValueError)
        self.assertEqual((error.function, error.block, error.index, error.word), (0, 0, -1, "paper"))

    def test_less_than_the_best_paper(self):
        kinds = (INT, INT, PAIR, REF)
        program = main_of(kinds, ((ZERO_0, ZERO_1, put(3, ("lend", "ref", whole(1)))), ("go", 1)),
                          ((ZERO_0,), ("go", 2)),
                          ((("show", copied(0)),), RETURN))
        best = best_paper(program)
        self.assertIsNone(refusal(program))
        self.assertIsNone(judge(program, best))
        for block, at, member, wanted in (
            (1, 0, (), (0, 2, -1, "paper")), (1, 0, (0,), (0, 2, -1, "paper")), (2, 0, (0,), None),
            (2, 0, (), (0, 2, 0, "there")),
            (2, 1, (0, 1, 2, 3), (0, 2, 1, "kept")), (1, 1, (0, 1, 2, 3), (0, 2, -1, "paper")),
            (2, 3, (3,), (0, 1, -1, "paper")),
            (1, 3, (3,), None), (0, 3, (3,), None), (2, 2, ((3, ((0, 2), (5, 5))),), None),
        ):
            with self.subTest((block, at, member)):
                self.assertEqual(refusal_with(program, with_page(best, 0, block, at, member)), wanted)


class TakenTest(unittest.TestCase):

    def test_taken(self):
        self.assertIs(taken(straight((INT,), ZERO_0)), True)
        self.assertIs(taken(straight((INT,))), False)

    def check(self, wanted, text):
        with self.subTest(text):
            found = refusal_of_text(text)
            self.assertEqual(found and (found[0], found[3]), wanted)

    def test_texts(self):
        start = "variant list { none, some(int, box list) } "
        main = "fn main() -> int { "
        lent = "let v: vec int = vec int; push(v, 1); let r: ref int = ref v[0]; "
        for wanted, text in (
            (None, main + "let b: box int = box 1; return unbox b; }"),
            ((0, "there"), main + "let b: box int = box 1; let c: box int = b; return unbox b; }"),
            ((0, "there"), main + "let b: box int = box 1; if true { let c: box int = b; } return *b; }"),
            ((0, "there"), main + "let b: box int = box 1; while true { let c: box int = b; } return 0; }"),
            (None, main + "let b: box int = box 1; while true { let c: box int = b; b = box 2; } return 0; }"),
            ((0, "lent"), main + lent + "push(v, 2); return *r; }"),
            (None, main + lent + "let n: int = *r; push(v, n); return n; }"),
            ((0, "lent"), main + "let a: int = 1; let r: mut int = mut a; a = 2; *r = 3; return a; }"),
            ((0, "lent"), main + "let a: int = 1; let r: mut int = mut a; let s: mut int = mut a; *r = 3; return a; }"),
            (None, main + "let a: int = 1; let r: mut int = mut a; *r = 3; let s: mut int = mut a; *s = 4; "
             "return a; }"),
            ((0, "fixed"), main + "let a: int = 1; let r: ref int = ref a; *r = 2; return a; }"),
            # What is lent ends ahead of the return.
            ((0, "lent"), "fn f(a: ref int) -> ref int from a { let b: int = 1; return ref b; } " + main +
             "return 0; }"),
            (None, "fn f(a: ref int) -> ref int from a { return a; } " + main + "return 0; }"),
            ((0, "result"), "fn f(a: ref int, b: ref int) -> ref int from a { return b; } " + main + "return 0; }"),
            (None, start + main + "let l: list = some(1, box none); match l { none { } some(x, y) { show x; } } "
             "return 0; }"),
        ):
            self.check(wanted, text)

    def test_a_reference_over_calls_and_loops(self):
        text = """
        variant list { none, some(int, box list) }
        fn sum(l: ref list) -> int {
          let n: int = 0;
          match ref *l { none { } some(x, y) { n = *x + sum(ref **y); } }
          return n;
        }
        fn bump(l: mut list) -> int {
          match mut *l { none { } some(x, y) { *x = *x + 1; bump(mut **y); } }
          return 0;
        }
        fn main() -> int {
          let l: list = some(1, box some(2, box none));
          bump(mut l);
          let n: int = sum(ref l);
          %s
          return n;
        }"""
        self.check(None, text.replace("%s", ""))
        self.check((2, "lent"), text.replace("%s", "let r: ref list = ref l; bump(mut l); n = sum(r);"))
        self.check((2, "there"), text.replace("%s", "match l { none { } some(x, y) { } } n = sum(ref l);"))


if __name__ == "__main__":
    unittest.main()
