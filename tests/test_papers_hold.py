"""Points 5.3 and 5.6: which papers have the form and hold, and for which function and block one does not."""

import unittest

from helpers import BOOK, INT, deep_thing, longer, replaced
from judge_helpers import EMPTY, page, with_page
from mir_helpers import DEREF, JOIN, RETURN, TRUE, ZERO, copied, main_of, put, whole
from oneowner.mir import is_mir
from oneowner.papers import best_paper, holds

BOX, RI = ("box", INT), ("ref", INT)
NOTHING = ("use", ZERO)
# Main: an owner, a box, two references; block 4 cannot be come to, and block 3 is come to in two ways.
KINDS = (INT, INT, BOX, RI, RI)
MAIN = (
    1, KINDS,
    (
        ((put(2, ("box", copied(1), INT)), put(3, ("lend", "ref", whole(1)))), ("branch", TRUE, 1, 2)),
        ((put(4, ("use", copied(3))), ("end", 2)), ("go", 3)),
        ((put(4, ("lend", "ref", (2, (DEREF,)))), put(3, ("lend", "ref", (2, (DEREF,))))), ("go", 3)),
        ((put(0, ("use", ("copy", (4, (DEREF,))))), ("end", 2)), RETURN),
        ((put(3, ("lend", "ref", whole(0))),), ("go", 3)),
    ),
    (),
)
OTHER = (2, (RI, RI, RI), (((), ("go", 1)), ((put(0, ("use", copied(1))),), RETURN)), (1, 2))
PROGRAM = (BOOK, (MAIN, OTHER), 0)
HELD_1 = ((3, ((0, 1),)),)
HELD_3 = ((3, ((0, 1), (2, 1))), (4, ((0, 1), (2, 0))))
PARAMS = ((1, ((-1, 1),)), (2, ((-1, 2),)))
BEST = (
    (page((1,)), page((1, 2, 3), held=HELD_1, live=(3,)), page((1, 2, 3), held=HELD_1),
     page((1, 3, 4), (1, 2, 3, 4), HELD_3, (4,)), EMPTY),
    (page((1, 2), held=PARAMS, live=(1,)), page((1, 2), held=PARAMS, live=(1,))),
)
THERE, MAY, HELD, LIVE = range(4)


class HoldTest(unittest.TestCase):

    def check(self, paper, wanted):
        with self.subTest(paper):
            self.assertEqual(holds(PROGRAM, paper), wanted)

    def check_page(self, function, block, at, member, wanted):
        self.check(with_page(BEST, function, block, at, member), wanted)

    def test_the_best_paper(self):
        self.assertTrue(is_mir(PROGRAM))
        self.assertEqual(best_paper(PROGRAM), BEST)
        self.check(BEST, None)

    def test_there_with_less(self):
        self.check_page(0, 0, THERE, (), (0, 1))
        for there in ((), (1,), (4,), (3,), (1, 4), (3, 4)):
            self.check_page(0, 3, THERE, there, None)
        # What is there in block 3 then is not surely come by.
        self.check_page(0, 1, THERE, (), (0, 3))
        self.check_page(0, 1, THERE, (1, 3), None)
        self.check_page(0, 2, THERE, (3,), (0, 3))
        self.check_page(0, 2, THERE, (1,), None)
        self.check_page(1, 0, THERE, (1,), (1, 1))
        self.check_page(1, 1, THERE, (1,), None)

    def test_there_with_more(self):
        for local in (0, 2, 3, 4):
            self.check_page(0, 0, THERE, tuple(sorted((1, local))), (0, 0))
        self.check_page(0, 1, THERE, (0, 1, 2, 3), (0, 1))
        self.check_page(0, 1, THERE, (1, 2, 3, 4), (0, 1))
        self.check_page(0, 2, THERE, (1, 2, 3, 4), (0, 2))
        self.check_page(0, 3, THERE, (1, 2, 3, 4), (0, 3))
        self.check_page(0, 3, THERE, (0, 1, 3, 4), (0, 3))
        self.check_page(1, 0, THERE, (0, 1, 2), (1, 0))

    def test_may_with_less(self):
        self.check_page(0, 0, MAY, (), (0, 0))
        self.check_page(0, 1, MAY, (1, 2), (0, 1))
        self.check_page(0, 2, MAY, (), (0, 2))
        for local in (1, 2, 3, 4):
            self.check_page(0, 3, MAY, tuple(other for other in (1, 2, 3, 4) if other != local), (0, 3))
        self.check_page(1, 0, MAY, (1,), (1, 0))

    def test_may_with_more(self):
        self.check_page(0, 3, MAY, (0, 1, 2, 3, 4), None)
        self.check_page(0, 0, MAY, (0, 1), (0, 1))
        self.check_page(0, 0, MAY, (1, 2, 3), None)
        self.check_page(0, 1, MAY, (1, 2, 3, 4), None)
        self.check_page(0, 1, MAY, (0, 1, 2, 3), (0, 3))
        self.check_page(1, 1, MAY, (0, 1, 2), None)

    def test_held_with_less(self):
        self.check_page(0, 1, HELD, (), (0, 1))
        self.check_page(0, 2, HELD, (), (0, 2))
        for held in (
            (), HELD_3[:1], HELD_3[1:], ((3, ((0, 1),)), HELD_3[1]), ((3, ((2, 1),)), HELD_3[1]),
            (HELD_3[0], (4, ((0, 1),))), (HELD_3[0], (4, ((2, 0),))),
        ):
            self.check_page(0, 3, HELD, held, (0, 3))
        self.check_page(1, 0, HELD, PARAMS[:1], (1, 0))
        self.check_page(1, 0, HELD, PARAMS[1:], (1, 0))
        self.check_page(1, 1, HELD, (), (1, 1))

    def test_held_with_more(self):
        self.check_page(0, 3, HELD, ((3, ((0, 1), (2, 0), (2, 1))), HELD_3[1]), None)
        self.check_page(0, 1, HELD, ((3, ((0, 1), (2, 0))),), (0, 3))
        self.check_page(0, 1, HELD, ((3, ((0, 1), (2, 1))),), (0, 3))
        self.check_page(0, 2, HELD, ((3, ((0, 1), (2, 0))),), None)
        self.check_page(0, 2, HELD, ((3, ((0, 1),)), (4, ((2, 1),))), None)
        self.check_page(0, 0, HELD, ((3, ((0, 1),)),), None)
        self.check_page(0, 0, HELD, ((4, ((0, 1),)),), (0, 1))
        self.check_page(1, 0, HELD, ((1, ((-1, 1), (-1, 2))), PARAMS[1]), (1, 1))
        self.check_page(1, 1, HELD, ((1, ((-1, 1), (-1, 2))), PARAMS[1]), None)
        self.check_page(1, 1, HELD, ((0, ((-1, 1), (-1, 2))),) + PARAMS, None)

    def test_a_loan_of_a_block_that_cannot_be_come_to_is_handed_on(self):
        self.check_page(0, 0, HELD, ((4, ((4, 0),)),), (0, 1))
        self.check_page(0, 1, HELD, ((3, ((0, 1), (4, 0))),), (0, 3))

    def test_live_with_less(self):
        self.check_page(0, 1, LIVE, (), (0, 1))
        self.check_page(0, 3, LIVE, (), (0, 3))
        self.check_page(1, 0, LIVE, (), (1, 0))
        self.check_page(1, 1, LIVE, (), (1, 1))

    def test_live_with_more(self):
        self.check_page(0, 0, LIVE, (3, 4), None)
        self.check_page(0, 1, LIVE, (3, 4), (0, 0))
        self.check_page(0, 2, LIVE, (3,), None)
        self.check_page(0, 2, LIVE, (4,), (0, 0))
        self.check_page(0, 3, LIVE, (3, 4), None)
        self.check_page(1, 1, LIVE, (1, 2), (1, 0))
        self.check_page(1, 1, LIVE, (0, 1), (1, 0))
        self.check_page(1, 0, LIVE, (0, 1, 2), None)

    def test_weaker_everywhere(self):
        every = tuple(range(5))
        weak = (
            tuple(page((), every, ((3, ((0, 1), (2, 0), (2, 1), (4, 0))), (4, ((0, 1), (2, 0), (2, 1), (4, 0)))),
                       (3, 4))
                  for _ in range(5)),
            tuple(page((), (0, 1, 2), tuple((at, ((-1, 1), (-1, 2))) for at in range(3)), (0, 1, 2)) for _ in range(2)),
        )
        self.check(weak, None)

    def test_blocks_that_cannot_be_come_to_need_the_form_alone(self):
        self.check_page(0, 4, THERE, (0, 1, 2, 3, 4), None)
        self.check_page(0, 4, MAY, (0,), None)
        self.check_page(0, 4, HELD, ((3, ((0, 1),)),), None)
        self.check_page(0, 4, LIVE, (3, 4), None)
        for at in (THERE, MAY, LIVE):
            self.check_page(0, 4, at, (5,), (0, 0))
        self.check_page(0, 4, HELD, ((2, ((0, 1),)),), (0, 0))

    def test_pairs_that_are_no_loans(self):
        for pair in (
            (0, 0), (0, 2), (1, 0), (3, 5), (5, 0), (200, 200), (0, -1), (-1, 0), (-1, 1), (-1, 4), (-2, 1), (-7, -7),
            (2, 2 ** 70), (-2 ** 70, 0),
        ):
            pairs = tuple(sorted([(0, 1), pair]))
            self.check_page(0, 1, HELD, ((3, pairs),), None)
            self.check_page(0, 1, HELD, ((3, ((0, 1),)), (4, (pair,))), None)
            # They stand for nothing: what is held must be there beside them.
            self.check_page(0, 1, HELD, ((3, (pair,)),), (0, 1))
        self.check_page(0, 0, HELD, ((4, ((7, 7),)),), None)
        self.check_page(1, 0, HELD, ((1, ((-1, 1), (-1, 3))), PARAMS[1]), None)
        self.check_page(1, 0, HELD, ((1, ((-1, 0), (-1, 1), (0, 0))), PARAMS[1]), None)
        self.check_page(1, 0, HELD, ((1, ((-1, 0),)), PARAMS[1]), (1, 0))

    def test_ahead_and_behind(self):
        # Of several wrong blocks the first one counts, of several functions the first one.
        paper = with_page(with_page(BEST, 0, 3, MAY, ()), 0, 1, LIVE, ())
        self.check(paper, (0, 1))
        self.check(with_page(with_page(BEST, 0, 3, MAY, ()), 1, 0, THERE, (5,)), (0, 3))
        self.check(with_page(with_page(BEST, 0, 3, MAY, ()), 0, 2, THERE, (5,)), (0, 0))
        self.check(with_page(with_page(BEST, 0, 4, MAY, ()), 1, 1, LIVE, ()), (1, 1))
        self.check((BEST[0], BEST[1][:1]), (1, 0))

    def test_block_0_as_one_to_which_a_way_leads(self):
        program = main_of((INT, INT), ((put(1, NOTHING),), ("branch", TRUE, 0, 1)), ((), RETURN))
        self.assertEqual(best_paper(program), ((page((), (1,)), page((1,))),))
        for first, second, wanted in (
            (page((), (1,)), page((1,)), None), (page(()), page((1,)), (0, 0)), (page((1,)), page((1,)), (0, 0)),
            (page((), (0, 1)), page((1,), (0, 1)), None), (page((), (0, 1)), page((1,)), (0, 1)),
        ):
            self.assertEqual(holds(program, ((first, second),)), wanted)

    def test_pars(self):
        program = main_of((INT, INT, RI), ((put(2, ("lend", "ref", whole(1))),), ("par", 1, 2, 3)),
                          ((put(1, NOTHING),), JOIN), ((put(0, ("use", ("copy", (2, (DEREF,))))),), JOIN),
                          ((), RETURN))
        held = ((2, ((0, 0),)),)
        best = (EMPTY, page((2,), held=held, live=(2,)), page((1, 2), held=held, live=(2,)), page((0, 1, 2), held=held))
        self.assertEqual(best_paper(program), (best,))
        self.assertIsNone(holds(program, (best,)))
        for block, at, member, wanted in (
            (1, LIVE, (), (0, 1)), (2, LIVE, (), (0, 2)), (2, HELD, (), (0, 2)), (2, MAY, (2,), (0, 2)),
            (2, THERE, (0, 1, 2), (0, 2)), (3, THERE, (1, 2), None), (3, MAY, (1, 2), (0, 3)), (3, LIVE, (2,), None),
            (2, THERE, (2,), (0, 3)), (1, THERE, (), (0, 2)),
        ):
            with self.subTest((block, at, member)):
                self.assertEqual(holds(program, with_page((best,), 0, block, at, member)), wanted)


OTHERS = (None, True, False, 0, "", "paper", (), (0,), ((),), 7)


class FormTest(unittest.TestCase):

    def check(self, paper, wanted):
        with self.subTest(paper):
            self.assertEqual(holds(PROGRAM, paper), wanted)

    def test_no_tuple_with_one_for_each_function(self):
        for thing in (None, True, False, 0, 1, "", "ab", (), BEST[:1], BEST[1:], BEST + BEST[:1], BEST[0],
                      deep_thing(3000)):
            self.check(thing, (0, 0))

    def test_too_few_or_too_many_blocks(self):
        one, other = BEST
        for thing in (None, True, 0, "abcde", (), one[:4], one[1:], one + (EMPTY,), deep_thing(3000)):
            self.check((thing, other), (0, 0))
        for thing in (None, False, 0, "ab", (), other[:1], other + (EMPTY,)):
            self.check((one, thing), (1, 0))

    def test_pages(self):
        for thing in (None, True, 0, "", "abcd", (), EMPTY[:3], EMPTY + ((),), deep_thing(3000)):
            for block in range(5):
                self.check((BEST[0][:block] + (thing,) + BEST[0][block + 1:], BEST[1]), (0, 0))

    def test_locals(self):
        for at in (THERE, MAY, LIVE):
            for member in (
                None, True, 0, 3, "", "3", (5,), (-1,), (3, 5), (True,), (False,), ("3",), (None,), ((3,),),
                (3, 3), (4, 3), (3, 4, 4), ((),), (2 ** 70,), deep_thing(3000), (4, "5"),
            ):
                self.check(with_page(BEST, 0, 3, at, member), (0, 0))

    def test_owners_are_no_references(self):
        for local in (0, 1, 2):
            self.check(with_page(BEST, 0, 3, LIVE, (local, 4)), (0, 0))
            self.check(with_page(BEST, 0, 3, HELD, ((local, ((0, 1),)),) + HELD_3), (0, 0))

    def test_held(self):
        three, four = HELD_3
        for member in (
            None, True, 0, "", (3,), (None,), ((),), ((3,),), ((3, ((0, 1),), ()),), (four, three), (three, three),
            ((5, ((0, 1),)),), ((-1, ((0, 1),)),), ((True, ((0, 1),)),), (("3", ((0, 1),)),), ((None, ((0, 1),)),),
            (((3,), ((0, 1),)),), ((3, ()),), ((3, None),), ((3, 0),), ((3, "ab"),), ((3, (0, 1)),), ((3, ((0,),)),),
            ((3, ((0, 1, 2),)),), ((3, ((),)),), ((3, (None,)),), ((3, ((0, "1"),)),), ((3, (("0", 1),)),),
            ((3, ((0, None),)),), ((3, ((0, True),)),), ((3, ((False, 1),)),), ((3, ((0, (1,)),)),),
            ((3, ((0, 1), (0, 1))),), ((3, ((2, 1), (0, 1))),), ((3, ((0, 1), (0, 0))),),
            ((3, ((0, 1), (2, 1), (2, 0))),),
            ((3, ((0, 1), 2)),), (three, four, ()), deep_thing(3000), ((3, deep_thing(3000)),),
            ((3, (deep_thing(3000),)),),
            ((3, ((0, deep_thing(3000)),)),), (deep_thing(3000),), ((deep_thing(3000), ((0, 1),)),),
        ):
            self.check(with_page(BEST, 0, 3, HELD, member), (0, 0))

    def test_each_part_replaced(self):
        # Whatever stands anywhere, the answer is None or a pair with the function that was changed.
        for at in (0, 1):
            for other in replaced(BEST[at], OTHERS):
                found = holds(PROGRAM, BEST[:at] + (other,) + BEST[at + 1:])
                self.assertTrue(found is None or found[0] == at, (other, found))
            for other in longer(BEST[at], OTHERS):
                found = holds(PROGRAM, BEST[:at] + (other,) + BEST[at + 1:])
                self.assertTrue(found is None or found[0] == at, (other, found))


if __name__ == "__main__":
    unittest.main()
