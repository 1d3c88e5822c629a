"""Point 5.7, the sides of pars: "show", and what counts as lent in the second side."""

import unittest

from helpers import BOOL, INT
from judge_helpers import refusal, refusal_with, with_page
from mir_helpers import DEREF, JOIN, RETURN, TRUE, ZERO, copied, main_of, put, whole
from oneowner.mir import is_mir
from oneowner.papers import best_paper

REF, MUT = ("ref", INT), ("mut", INT)
SET_1 = put(1, ("use", ZERO))
END = ((put(0, ("use", ZERO)),), RETURN)


class ShowTest(unittest.TestCase):

    kinds = (INT, INT, INT, INT)
    show = ("show", ZERO)

    def check(self, wanted, first, second, *functions):
        program = main_of(self.kinds, ((), ("par", 1, 2, 3)), (first, JOIN), (second, JOIN), END, others=functions)
        self.assertTrue(is_mir(program))
        with self.subTest((first, second)):
            self.assertEqual(refusal(program), wanted)

    def test_shows(self):
        refused = (0, 0, 0, "show")
        self.check(refused, (self.show,), ())
        self.check(refused, (), (self.show,))
        self.check(refused, (self.show,), (self.show,))
        self.check(refused, (SET_1, ("show", copied(1))), ())
        self.check(None, (), ())

    def test_calls(self):
        refused = (0, 0, 0, "show")
        quiet = (0, (INT,), (((put(0, ("use", ZERO)),), RETURN),), ())
        loud = (0, (INT,), (((put(0, ("use", ZERO)), self.show), RETURN),), ())
        calls_2 = (0, (INT, INT), ((((("call", 0, 2, ())),), RETURN),), ())
        calls_3 = (0, (INT, INT), ((((("call", 0, 3, ())),), RETURN),), ())
        one, two = ("call", 1, 1, ()), ("call", 2, 1, ())
        self.check(None, (one,), (two,), quiet)
        self.check(refused, (one,), (), loud)
        self.check(refused, (), (two,), loud)
        self.check(refused, (one,), (), calls_2, loud)
        self.check(refused, (), (one,), calls_2, calls_3, loud)
        self.check(None, (one,), (two,), calls_2, calls_3, quiet)
        self.check(None, (one,), (two,), calls_2, quiet, loud)
        self.check(None, (one,), (two,), quiet, loud)

    def test_functions_that_call_each_other(self):
        calls_2 = (0, (INT, INT), ((((("call", 0, 2, ())),), RETURN),), ())
        quiet = (0, (INT, INT), (((("call", 0, 1, ()),), RETURN),), ())
        loud = (0, (INT, INT), (((("call", 0, 1, ()), self.show), RETURN),), ())
        one = ("call", 1, 1, ())
        self.check(None, (one,), (), calls_2, quiet)
        self.check((0, 0, 0, "show"), (one,), (), calls_2, loud)

    def test_a_call_of_the_function_itself(self):
        self.check(None, (("call", 1, 0, ()),), ())
        shown = main_of(self.kinds, ((), ("par", 1, 2, 3)), ((("call", 1, 0, ()),), JOIN), ((), JOIN),
                        ((self.show,) + END[0], RETURN))
        self.assertEqual(refusal(shown), (0, 0, 0, "show"))

    def test_blocks_that_can_be_come_to(self):
        one = ("call", 1, 1, ())
        zero = put(0, ("use", ZERO))
        for blocks, wanted in (
            ((((zero,), ("go", 2)), ((self.show,), ("go", 2)), ((), RETURN)), None),
            ((((zero,), ("go", 1)), ((self.show,), ("go", 2)), ((), RETURN)), (0, 0, 0, "show")),
            ((((zero,), ("branch", TRUE, 1, 2)), ((self.show,), ("go", 2)), ((), RETURN)), (0, 0, 0, "show")),
            ((((zero,), RETURN), ((self.show,), ("go", 0))), None),
            # A second side that cannot be come to counts for nothing here, but its par is refused in its function.
            ((((zero,), ("par", 1, 2, 3)), ((), ("go", 1)), ((self.show,), JOIN), ((self.show,), RETURN)),
             (1, 0, 1, "join")),
        ):
            self.check(wanted, (one,), (), (0, (INT, INT), blocks, ()))

    def test_in_blocks_of_the_sides(self):
        blocks = [((), ("par", 1, 2, 3)), ((), ("branch", TRUE, 4, 5)), ((), ("par", 6, 7, 8)), ((), RETURN),
                  ((), JOIN),
                  ((), JOIN), ((), JOIN), ((), JOIN), ((), JOIN), ((), JOIN)]
        for at in range(10):
            shown = list(blocks)
            shown[at] = ((self.show,), blocks[at][1])
            shown[3] = (shown[3][0] + END[0], RETURN)
            wanted = (0, 0, 0, "show") if at not in (0, 3, 9) else None
            with self.subTest(at):
                self.assertEqual(refusal(main_of(self.kinds, *shown)), wanted)

    def test_a_paper_that_says_less(self):
        program = main_of(self.kinds, ((), ("par", 1, 2, 3)), ((self.show,), JOIN), ((), JOIN), END)
        paper = with_page(best_paper(program), 0, 3, 1, (0, 1, 2, 3))
        self.assertEqual(refusal_with(program, paper), (0, 0, 0, "show"))


class SecondSideTest(unittest.TestCase):
    """References that live in the first side count in the second one, too."""

    kinds = (INT, INT, INT, REF, MUT, INT)
    ending = ((put(0, ("use", ZERO)),), RETURN)

    def check(self, wanted, ahead, first, second, more=()):
        program = main_of(self.kinds, ((SET_1, put(2, ("use", ZERO))) + ahead, ("par", 1, 2, 3)), (first, JOIN),
                          (second, JOIN), self.ending, *more)
        with self.subTest((ahead, first, second)):
            self.assertEqual(refusal(program), wanted)

    def test_what_the_first_side_uses(self):
        ref, mut = put(3, ("lend", "ref", whole(1))), put(4, ("lend", "mut", whole(1)))
        used = (put(5, ("use", ("copy", (3, (DEREF,))))),)
        changed = (("set", (4, (DEREF,)), ("use", ZERO)),)
        read = (put(2, ("use", copied(1))),)
        self.check((0, 2, 0, "lent"), (ref,), used, (SET_1,))
        self.check(None, (ref,), used, read)
        self.check((0, 2, 0, "lent"), (mut,), changed, read)
        self.check(None, (ref,), used, (put(2, ("use", ZERO)),))
        self.check(None, (ref,), (), (SET_1,))
        self.check((0, 1, 0, "lent"), (ref,), (SET_1,), used)
        self.check((0, 1, 0, "lent"), (mut,), read, changed)

    def test_what_it_holds_at_the_par_counts(self):
        one, two = put(3, ("lend", "ref", whole(1))), put(3, ("lend", "ref", whole(2)))
        used = put(5, ("use", ("copy", (3, (DEREF,)))))
        # The first side uses it and then lends it anew.
        self.check((0, 2, 0, "lent"), (one,), (used, two), (SET_1,))
        self.check(None, (one,), (two, used), (SET_1,))
        self.check((0, 0, 3, "apart"), (one,), (used, two), (put(2, ("use", ZERO)),))
        self.check((0, 0, 4, "apart"), (one, two), (used, one), (SET_1,))

    def test_blocks_within_the_second_side(self):
        read = ((put(5, ("use", ("copy", (3, (DEREF,))))),), JOIN)
        for place, wanted in (((1, 0), (0, 4, 0, "lent")), ((2, 0), None)):
            local = place[0]
            blocks = (
                ((SET_1, put(2, ("use", ZERO)), put(3, ("lend", "ref", whole(1)))), ("par", 1, 2, 3)), read,
                ((), ("branch", TRUE, 4, 5)), self.ending, ((put(local, ("use", ZERO)),), JOIN), ((), JOIN),
            )
            self.assertEqual(refusal(main_of(self.kinds, *blocks)), wanted)
            blocks = (
                ((SET_1, put(2, ("use", ZERO)), put(3, ("lend", "ref", whole(1)))), ("par", 1, 2, 3)), read,
                ((), ("par", 4, 5, 6)), self.ending, ((put(local, ("use", ZERO)),), JOIN), ((), JOIN), ((), JOIN),
            )
            self.assertEqual(refusal(main_of(self.kinds, *blocks)), wanted)
            blocks = (
                ((SET_1, put(2, ("use", ZERO)), put(3, ("lend", "ref", whole(1)))), ("par", 1, 2, 3)), read,
                ((), ("par", 5, 4, 6)), self.ending, ((put(local, ("use", ZERO)),), JOIN), ((), JOIN), ((), JOIN),
            )
            self.assertEqual(refusal(main_of(self.kinds, *blocks)), wanted)
            blocks = (
                ((SET_1, put(2, ("use", ZERO)), put(3, ("lend", "ref", whole(1)))), ("par", 1, 2, 3)), read,
                ((), ("par", 5, 6, 4)), self.ending, ((put(local, ("use", ZERO)),), JOIN), ((), JOIN), ((), JOIN),
            )
            self.assertEqual(refusal(main_of(self.kinds, *blocks)), wanted)

    def test_a_way_of_the_second_side(self):
        kinds = (INT, BOOL, ("mut", BOOL))
        program = main_of(
            kinds, ((put(1, ("use", TRUE)), put(2, ("lend", "mut", whole(1)))), ("par", 1, 2, 3)),
            ((("set", (2, (DEREF,)), ("use", TRUE)),), JOIN), ((), ("branch", copied(1), 4, 5)), self.ending,
            ((), JOIN), ((), JOIN),
        )
        self.assertEqual(refusal(program), (0, 2, 0, "lent"))

    def test_a_par_within_the_first_side(self):
        read = ((put(5, ("use", ("copy", (3, (DEREF,))))),), JOIN)
        lend = put(3, ("lend", "ref", whole(1)))
        # The inner par's first side uses what its second side must not change then.
        for inner, outer, wanted in (
            (((SET_1,), JOIN), ((), JOIN), (0, 5, 0, "lent")), (((), JOIN), ((SET_1,), JOIN), (0, 2, 0, "lent")),
            (((), JOIN), ((), JOIN), None),
        ):
            blocks = (((SET_1, lend), ("par", 1, 2, 3)), ((), ("par", 4, 5, 6)), outer, self.ending, read, inner,
                      ((), JOIN))
            self.assertEqual(refusal(main_of(self.kinds, *blocks)), wanted)
        # What is behind the inner par, or behind both, is no second side.
        blocks = (((SET_1, lend), ("par", 1, 2, 3)), ((), ("par", 4, 5, 6)), ((), JOIN), self.ending, read, ((), JOIN),
                  ((SET_1,), JOIN))
        self.assertIsNone(refusal(main_of(self.kinds, *blocks)))
        blocks = (((SET_1, lend), ("par", 1, 2, 3)), read, ((), JOIN), ((SET_1, put(0, ("use", ZERO))), RETURN))
        self.assertIsNone(refusal(main_of(self.kinds, *blocks)))

    def test_the_page_of_the_first_side_tells_what_is_live_there(self):
        program = main_of(self.kinds, ((SET_1, put(3, ("lend", "ref", whole(1)))), ("par", 1, 2, 3)), ((), JOIN),
                          ((SET_1,), JOIN), self.ending)
        best = best_paper(program)
        self.assertIsNone(refusal(program))
        paper = with_page(with_page(best, 0, 1, 3, (3,)), 0, 0, 3, (3,))
        self.assertEqual(refusal_with(program, paper), (0, 2, 0, "lent"))


if __name__ == "__main__":
    unittest.main()
