"""Points 5.3 to 5.6: what is known at the beginning of blocks, as the best paper tells it."""

import unittest

from helpers import BOOK, BOOL, INT, LIST, PAIR
from judge_helpers import EMPTY, page
from mir_helpers import DEREF, JOIN, RETURN, TRUE, ZERO, copied, field, item, main_of, put, whole
from oneowner.lower import lower
from oneowner.mir import is_mir
from oneowner.papers import best_paper, holds
from oneowner.typed import typed

BOX, VEC, RI, RP, MP, MV = ("box", INT), ("vec", INT), ("ref", INT), ("ref", PAIR), ("mut", PAIR), ("mut", ("vec", INT))
NOTHING = ("use", ZERO)


def lend(word, place):
    return ("lend", word, place)


class PaperTest(unittest.TestCase):

    def check(self, program, *pages):
        """The best paper of the first function has these pages."""
        self.assertTrue(is_mir(program))
        found = best_paper(program)
        self.assertEqual(len(found), len(program[1]))
        self.assertEqual(found[0], pages)
        self.assertIsNone(holds(program, found))


class ThereTest(PaperTest):

    def test_one_block(self):
        self.check(main_of((INT,), ((), RETURN)), EMPTY)
        self.check(main_of((INT, INT, BOOL, BOX), ((), RETURN), params=2), page((1, 2)))

    def test_what_statements_take_and_give(self):
        kinds = (INT, INT, BOOL, PAIR, BOX, VEC, LIST, ("box", LIST), PAIR, BOX)
        rows = (
            ((), (1, 2)),
            ((put(0, NOTHING),), (0, 1, 2)),
            ((put(3, ("record", 0, (copied(1), copied(2)))),), (1, 2, 3)),
            # A place that is no whole local is no target.
            ((("set", field(3, 0), NOTHING),), (1, 2)),
            ((put(3, ("record", 0, (ZERO, TRUE))), put(8, ("use", ("move", 3)))), (1, 2, 8)),
            ((put(3, ("use", ("move", 3))),), (1, 2, 3)),
            ((put(4, ("box", copied(1), INT)), put(1, ("unbox", 4))), (1, 2)),
            ((put(4, ("box", ZERO, INT)), put(0, ("unbox", 4))), (0, 1, 2)),
            ((put(5, ("vec", INT)), ("push", whole(5), copied(1))), (1, 2, 5)),
            ((("push", whole(5), copied(1)),), (1, 2)),
            ((("take", 0, whole(5)),), (0, 1, 2)),
            ((put(3, ("record", 0, (ZERO, TRUE))), ("open", 3, (0, 2))), (0, 1, 2)),
            ((("open", 3, (0, 2)),), (0, 1, 2)),
            ((put(6, ("variant", 0, 0, ())), ("unpack", 6, 1, (0, 7))), (0, 1, 2, 7)),
            ((put(6, ("variant", 0, 0, ())), ("unpack", 6, 0, ())), (1, 2)),
            ((("drop", 1),), (2,)),
            ((("end", 2),), (1,)),
            ((("drop", 4), ("end", 5)), (1, 2)),
            ((("show", copied(1)), ("show", copied(2))), (1, 2)),
            ((("call", 0, 0, (copied(1), copied(2))),), (0, 1, 2)),
            ((put(4, ("box", ZERO, INT)), put(9, ("box", ZERO, INT)), put(4, ("use", ("move", 9)))), (1, 2, 4)),
        )
        for statements, there in rows:
            program = main_of(kinds, (statements, ("go", 1)), ((), RETURN), params=2)
            self.check(program, page((1, 2)), page(there))

    def test_a_call_takes_what_it_moves(self):
        other = (1, (INT, BOX), (((), RETURN),), ())
        kinds = (INT, BOX, BOX)
        self.check(main_of(kinds, ((put(1, ("box", ZERO, INT)), ("call", 0, 1, (("move", 1),))), ("go", 1)),
                           ((), RETURN), others=(other,)), EMPTY, page((0,)))
        same = (1, (BOX, BOX), (((), RETURN),), ())
        self.check(main_of(kinds, ((put(1, ("box", ZERO, INT)), ("call", 1, 1, (("move", 1),))), ("go", 1)),
                           ((), RETURN), others=(same,)), EMPTY, page((1,)))

    def test_branches(self):
        kinds = (INT, INT, BOOL, BOX, BOX)
        program = main_of(
            kinds,
            ((put(3, ("box", copied(1), INT)),), ("branch", TRUE, 1, 2)),
            ((put(4, ("use", ("move", 3))),), ("go", 3)),
            ((put(2, ("use", TRUE)),), ("go", 3)),
            ((), RETURN),
            params=1,
        )
        self.check(program, page((1,)), page((1, 3)), page((1, 3)), page((1,), (1, 2, 3, 4)))

    def test_switches(self):
        kinds = (INT, LIST, INT, BOOL, PAIR)
        program = main_of(
            kinds,
            ((put(1, ("variant", 0, 0, ())),), ("switch", whole(1), (1, 2, 2))),
            ((put(2, NOTHING), put(3, ("use", TRUE))), ("go", 3)),
            ((put(2, NOTHING), ("drop", 1)), ("go", 3)),
            ((), RETURN),
        )
        self.check(program, EMPTY, page((1,)), page((1,)), page((2,), (1, 2, 3)))

    def test_loops(self):
        kinds = (INT, INT, BOOL, BOX, BOX)
        program = main_of(
            kinds,
            ((put(3, ("box", copied(1), INT)),), ("go", 1)),
            ((), ("branch", TRUE, 2, 3)),
            ((put(4, ("use", ("move", 3))),), ("go", 1)),
            ((), RETURN),
            params=1,
        )
        self.check(program, page((1,)), page((1,), (1, 3, 4)), page((1,), (1, 3, 4)), page((1,), (1, 3, 4)))

    def test_a_loop_that_keeps_what_is_there(self):
        program = main_of(
            (INT, BOX, INT),
            ((put(1, ("box", ZERO, INT)),), ("go", 1)),
            ((put(2, ("unbox", 1)), put(1, ("box", copied(2), INT))), ("branch", TRUE, 1, 2)),
            ((), RETURN),
        )
        self.check(program, EMPTY, page((1,), (1, 2)), page((1, 2)))

    def test_a_loop_to_block_0(self):
        program = main_of(
            (INT, INT, BOX),
            ((put(2, ("box", ZERO, INT)),), ("branch", TRUE, 0, 1)),
            ((put(0, NOTHING), ("end", 1)), ("branch", TRUE, 0, 2)),
            ((), RETURN),
            params=1,
        )
        self.check(program, page((), (0, 1, 2)), page((2,), (0, 1, 2)), page((0, 2)))

    def test_blocks_that_cannot_be_come_to(self):
        program = main_of(
            (INT, RI, RI),
            ((), ("go", 2)),
            ((put(1, ("use", copied(2))), put(0, NOTHING)), ("go", 2)),
            ((), RETURN),
            ((), ("go", 1)),
        )
        self.check(program, EMPTY, EMPTY, EMPTY, EMPTY)

    def test_functions_that_never_return(self):
        self.check(main_of((INT, INT), ((put(1, NOTHING),), ("go", 0)), ((), RETURN)), page((), (1,)), EMPTY)


class HeldTest(PaperTest):

    def test_params(self):
        function = (4, (INT, RI, INT, MP, RP, RI), (((), ("go", 1)), ((), RETURN)), ())
        program = (BOOK, (function, (0, (INT,), (((), RETURN),), ())), 1)
        held = ((1, ((-1, 1),)), (3, ((-1, 3),)), (4, ((-1, 4),)))
        self.check(program, page((1, 2, 3, 4), held=held), page((1, 2, 3, 4), held=held))

    def test_lending(self):
        kinds = (INT, PAIR, RI, RP, MP)
        for word, local, place in (
            ("ref", 2, field(1, 0)), ("ref", 3, whole(1)), ("mut", 4, whole(1)), ("ref", 2, whole(0)),
        ):
            program = main_of(kinds, ((put(0, NOTHING), put(local, lend(word, place))), ("go", 1)), ((), RETURN))
            self.check(program, EMPTY, page((0, local), held=((local, ((0, 1),)),)))

    def test_lending_through_references(self):
        kinds = (INT, MP, RP, RI, RI, MP)
        blocks = (
            ((put(3, lend("ref", (1, (DEREF, ("field", 0))))),
              put(5, lend("mut", (1, (DEREF,)))),
              put(4, lend("ref", (5, (DEREF, ("field", 0))))),
              put(1, lend("mut", (1, (DEREF,)))),
              put(3, lend("ref", (3, (DEREF,))))), ("go", 1)),
            ((), RETURN),
        )
        program = (BOOK, ((2, kinds, blocks, ()), (0, (INT,), (((), RETURN),), ())), 1)
        held = (
            (1, ((-1, 1), (0, 3))), (2, ((-1, 2),)), (3, ((-1, 1), (0, 0), (0, 4))), (4, ((-1, 1), (0, 1), (0, 2))),
            (5, ((-1, 1), (0, 1))),
        )
        self.check(program, page((1, 2), held=((1, ((-1, 1),)), (2, ((-1, 2),))), live=(1,)),
                   page((1, 2, 3, 4, 5), held=held))

    def test_uses_hand_on_what_is_held(self):
        kinds = (INT, PAIR, RI, RI, MP, MP)
        blocks = (
            ((put(2, lend("ref", field(1, 0))), put(3, ("use", copied(2))), put(2, lend("ref", whole(0))),
              put(4, lend("mut", whole(1))), put(5, ("use", ("move", 4)))), ("go", 1)),
            ((), RETURN),
        )
        # A reference that was moved holds what it held.
        held = ((2, ((0, 2),)), (3, ((0, 0),)), (4, ((0, 3),)), (5, ((0, 3),)))
        self.check(main_of(kinds, *blocks), EMPTY, page((2, 3, 5), held=held))

    def test_only_a_target_changes_what_is_held(self):
        kinds = (INT, INT, RI, RI)
        for word in ("drop", "end"):
            program = main_of(kinds, ((put(2, lend("ref", whole(1))), (word, 2), (word, 1)), ("go", 1)), ((), RETURN))
            self.check(program, EMPTY, page((), held=((2, ((0, 0),)),)))
        program = main_of(kinds, ((put(2, lend("ref", whole(1))), put(2, ("use", copied(3)))), ("go", 1)), ((), RETURN))
        self.check(program, page((), live=(3,)), page((2,)))

    def test_a_use_of_a_reference_by_itself(self):
        program = main_of((INT, RI), ((put(1, lend("ref", whole(0))), put(1, ("use", copied(1)))), ("go", 1)),
                          ((), RETURN))
        self.check(program, EMPTY, page((1,), held=((1, ((0, 0),)),)))

    def test_calls(self):
        lender = (4, (RI, RI, INT, RI, MV), (((), RETURN),), (1, 3))
        plain = (1, (INT, RI), (((), RETURN),), ())
        kinds = (INT, VEC, RI, RI, RI, MV, RI)
        statements = (
            put(2, lend("ref", item(1, ZERO))), put(3, lend("ref", whole(0))), put(5, lend("mut", whole(1))),
            put(6, lend("ref", whole(0))), ("call", 4, 1, (copied(2), ZERO, copied(3), ("move", 5))),
            ("call", 6, 1, (copied(6), ZERO, copied(6), ("move", 5))), ("call", 0, 2, (copied(2),)),
            ("call", 2, 1, (copied(4), ZERO, copied(2), ("move", 5))),
        )
        program = main_of(kinds, (statements, ("go", 1)), ((), RETURN), others=(lender, plain))
        held = (
            (2, ((0, 0), (0, 1))), (3, ((0, 1),)), (4, ((0, 0), (0, 1))), (5, ((0, 2),)), (6, ((0, 3),)),
        )
        self.check(program, EMPTY, page((0, 2, 3, 4, 6), held=held))

    def test_a_call_with_from_of_a_kind_for_changing(self):
        lender = (3, (("mut", INT), MP, RP, MP), (((), RETURN),), (3,))
        kinds = (INT, PAIR, PAIR, MP, MP, RP, ("mut", INT))
        statements = (
            put(3, lend("mut", whole(1))), put(4, lend("mut", whole(2))), put(5, lend("ref", whole(1))),
            ("call", 6, 1, (("move", 3), copied(5), ("move", 4))),
        )
        program = main_of(kinds, (statements, ("go", 1)), ((), RETURN), others=(lender,))
        held = ((3, ((0, 0),)), (4, ((0, 1),)), (5, ((0, 2),)), (6, ((0, 1),)))
        self.check(program, EMPTY, page((5, 6), held=held))

    def test_branches_unite_what_is_held(self):
        kinds = (INT, RI, MP, PAIR, RI, MP, RI)
        blocks = (
            ((put(3, ("record", 0, (ZERO, TRUE))), put(4, lend("ref", field(3, 0))), put(6, ("use", copied(4)))),
             ("branch", TRUE, 1, 2)),
            ((put(5, lend("mut", (2, (DEREF,)))), put(4, lend("ref", (5, (DEREF, ("field", 0)))))), ("go", 3)),
            ((put(4, ("use", copied(1))),), ("go", 3)),
            ((("show", ("copy", (4, (DEREF,)))), ("show", ("copy", (6, (DEREF,))))), RETURN),
        )
        program = (BOOK, ((2, kinds, blocks, ()), (0, (INT,), (((), RETURN),), ())), 1)
        self.check(
            program,
            page((1, 2), held=((1, ((-1, 1),)), (2, ((-1, 2),))), live=(1, 2)),
            page((1, 2, 3, 4, 6), held=((1, ((-1, 1),)), (2, ((-1, 2),)), (4, ((0, 1),)), (6, ((0, 1),))), live=(2, 6)),
            page((1, 2, 3, 4, 6), held=((1, ((-1, 1),)), (2, ((-1, 2),)), (4, ((0, 1),)), (6, ((0, 1),))), live=(1, 6)),
            page((1, 2, 3, 4, 6), (1, 2, 3, 4, 5, 6), (
                (1, ((-1, 1),)), (2, ((-1, 2),)), (4, ((-1, 1), (-1, 2), (1, 0), (1, 1))), (5, ((-1, 2), (1, 0))),
                (6, ((0, 1),)),
            ), (4, 6)),
        )

    def test_loops_hand_on_until_nothing_changes(self):
        kinds = (INT, INT, RI, RI, RI)
        program = main_of(
            kinds,
            ((put(2, lend("ref", whole(0))), put(3, lend("ref", whole(0))), put(4, lend("ref", whole(0)))), ("go", 1)),
            ((put(4, ("use", copied(3))), put(3, ("use", copied(2))), put(2, lend("ref", whole(1)))),
             ("branch", TRUE, 1, 2)),
            ((), RETURN),
        )
        held = ((2, ((0, 0), (1, 2))), (3, ((0, 0), (0, 1), (1, 2))), (4, ((0, 0), (0, 1), (0, 2), (1, 2))))
        behind = ((2, ((1, 2),)), (3, ((0, 0), (1, 2))), (4, ((0, 0), (0, 1), (1, 2))))
        self.check(program, EMPTY, page((2, 3, 4), held=held, live=(2, 3)), page((2, 3, 4), held=behind))

    def test_loans_in_blocks_that_cannot_be_come_to(self):
        program = main_of((INT, RI), ((put(1, lend("ref", whole(0))),), ("go", 2)),
                          ((put(1, lend("ref", whole(0))),), ("go", 2)), ((), RETURN))
        self.check(program, EMPTY, EMPTY, page((1,), held=((1, ((0, 0),)),)))


class LiveTest(PaperTest):

    def live(self, kinds, *blocks, params=0, others=()):
        program = main_of(kinds, *blocks, params=params, others=others)
        self.assertTrue(is_mir(program))
        return tuple(found[3] for found in best_paper(program)[0])

    def test_each_use(self):
        other = (2, (INT, RP, MV), (((), RETURN),), ())
        kinds = (INT, INT, RI, MP, MV, ("ref", LIST), RP, MP, PAIR, ("vec", INT))
        rows = (
            (put(1, ("use", ("copy", (2, (DEREF,))))), (2,)),
            (("show", ("copy", (2, (DEREF,)))), (2,)),
            (put(7, ("use", ("move", 3))), (3,)),
            (put(6, lend("ref", (3, (DEREF,)))), (3,)),
            (put(1, ("len", (4, (DEREF,)))), (4,)),
            (("set", (3, (DEREF, ("field", 0))), NOTHING), (3,)),
            (("push", (4, (DEREF,)), ZERO), (4,)),
            (("take", 1, (4, (DEREF,))), (4,)),
            (("call", 1, 1, (copied(6), ("move", 4))), (4, 6)),
            (put(1, ("use", ("copy", item(9, ("copy", (2, (DEREF,))))))), (2,)),
            (("set", item(9, ("copy", (2, (DEREF,)))), NOTHING), (2,)),
            (("push", (4, (DEREF,)), ("copy", (2, (DEREF,)))), (2, 4)),
            (put(8, ("record", 0, (("copy", (2, (DEREF,))), ("copy", (3, (DEREF, ("field", 1))))))), (2, 3)),
            # Dropping and ending are no uses.
            (("drop", 2), ()), (("end", 3), ()), (("drop", 8), ()),
            (put(2, lend("ref", whole(1))), ()),
        )
        for statement, live in rows:
            with self.subTest(statement):
                self.assertEqual(self.live(kinds, ((statement,), RETURN), others=(other,)), (live,))

    def test_uses_by_ways(self):
        kinds = (INT, ("ref", BOOL), ("ref", LIST))
        self.assertEqual(self.live(kinds, ((), ("branch", ("copy", (1, (DEREF,))), 1, 1)), ((), RETURN)), ((1,), ()))
        self.assertEqual(self.live(kinds, ((), ("switch", (2, (DEREF,)), (1, 1, 1))), ((), RETURN)), ((2,), ()))

    def test_returns(self):
        main = (0, (INT,), (((), RETURN),), ())
        function = (1, (RI, RI), (((), ("go", 1)), ((), RETURN)), (1,))
        self.check((BOOK, (function, main), 1), page((1,), held=((1, ((-1, 1),)),), live=(0,)),
                   page((1,), held=((1, ((-1, 1),)),), live=(0,)))
        self.assertEqual(self.live((INT,), ((), RETURN)), ((),))

    def test_a_use_ahead_of_a_target(self):
        kinds = (INT, INT, RI, RI)
        self.assertEqual(self.live(kinds, ((put(2, lend("ref", whole(1))), put(3, ("use", copied(2)))), RETURN)),
                         ((),))
        self.assertEqual(self.live(kinds, ((put(3, ("use", copied(2))), put(2, lend("ref", whole(1)))), RETURN)),
                         ((2,),))
        self.assertEqual(self.live(kinds, ((put(2, ("use", copied(2))),), RETURN)), ((2,),))

    def test_a_call_whose_target_it_uses(self):
        other = (1, (RI, RI), (((), RETURN),), (1,))
        self.assertEqual(self.live((INT, RI), ((("call", 1, 1, (copied(1),)),), RETURN), others=(other,)), ((1,),))
        self.assertEqual(self.live((INT, RI, RI), ((("call", 1, 1, (copied(2),)), ("show", ("copy", (1, (DEREF,))))),
                                                   RETURN), others=(other,)), ((2,),))

    def test_over_a_loop(self):
        kinds = (INT, INT, RI, RI)
        blocks = (
            ((put(2, lend("ref", whole(1))), put(3, lend("ref", whole(1)))), ("go", 1)),
            ((), ("branch", TRUE, 2, 3)),
            ((put(1, ("use", ("copy", (2, (DEREF,))))),), ("go", 1)),
            ((("show", ("copy", (3, (DEREF,)))),), RETURN),
        )
        self.assertEqual(self.live(kinds, *blocks), ((), (2, 3), (2, 3), (3,)))

    def test_around_a_loop_to_the_next_round(self):
        kinds = (INT, INT, RI, RI)
        blocks = (
            ((), ("go", 1)),
            ((put(1, ("use", ("copy", (2, (DEREF,))))), put(2, ("use", copied(3)))), ("branch", TRUE, 1, 2)),
            ((), RETURN),
        )
        self.assertEqual(self.live(kinds, *blocks), ((2, 3), (2, 3), ()))

    def test_one_branch_alone(self):
        kinds = (INT, INT, RI)
        blocks = (
            ((), ("branch", TRUE, 1, 2)),
            ((put(2, lend("ref", whole(1))),), ("go", 3)),
            ((), ("go", 3)),
            ((("show", ("copy", (2, (DEREF,)))),), RETURN),
        )
        self.assertEqual(self.live(kinds, *blocks), ((2,), (), (2,), (2,)))

    def test_what_is_used_in_a_block_that_cannot_be_come_to(self):
        kinds = (INT, INT, RI)
        blocks = (((), ("go", 2)), ((("show", ("copy", (2, (DEREF,)))),), ("go", 2)), ((), RETURN))
        self.assertEqual(self.live(kinds, *blocks), ((), (), ()))


class ParTest(PaperTest):

    def test_the_sides_one_after_the_other(self):
        kinds = (INT, BOX, BOX, INT, RI, RI)
        program = main_of(
            kinds,
            ((put(1, ("box", ZERO, INT)), put(4, lend("ref", whole(3)))), ("par", 1, 2, 3)),
            ((put(2, ("use", ("move", 1))),), JOIN),
            ((put(5, ("use", copied(4))), ("drop", 2)), JOIN),
            ((("show", ("copy", (5, (DEREF,)))),), RETURN),
        )
        self.check(
            program, EMPTY, page((1, 4), held=((4, ((0, 1),)),), live=(4,)),
            page((2, 4), held=((4, ((0, 1),)),), live=(4,)),
            page((4, 5), held=((4, ((0, 1),)), (5, ((0, 1),))), live=(5,)),
        )

    def test_sides_of_several_blocks(self):
        kinds = (INT, INT, BOOL, BOX, BOX)
        program = main_of(
            kinds,
            ((), ("par", 1, 4, 7)),
            ((put(1, NOTHING),), ("branch", TRUE, 2, 3)),
            ((put(2, ("use", TRUE)),), JOIN),
            ((put(3, ("box", ZERO, INT)),), JOIN),
            ((), ("branch", TRUE, 5, 6)),
            ((put(2, ("use", TRUE)),), ("go", 4)),
            ((put(4, ("box", ZERO, INT)),), JOIN),
            ((), RETURN),
        )
        self.check(
            program, EMPTY, EMPTY, page((1,)), page((1,)), page((1,), (1, 2, 3)), page((1,), (1, 2, 3)),
            page((1,), (1, 2, 3)), page((1, 4), (1, 2, 3, 4)),
        )

    def test_pars_within_each_other(self):
        kinds = (INT, INT, INT, INT, INT, INT, INT)
        program = main_of(
            kinds,
            ((), ("par", 1, 5, 9)),
            ((put(1, NOTHING),), ("par", 2, 3, 4)),
            ((put(2, NOTHING),), JOIN),
            ((put(3, NOTHING),), JOIN),
            ((), JOIN),
            ((), ("par", 6, 7, 8)),
            ((put(4, NOTHING),), JOIN),
            ((put(5, NOTHING),), JOIN),
            ((put(6, NOTHING),), JOIN),
            ((), RETURN),
        )
        self.check(
            program, EMPTY, EMPTY, page((1,)), page((1, 2)), page((1, 2, 3)), page((1, 2, 3)), page((1, 2, 3)),
            page((1, 2, 3, 4)), page((1, 2, 3, 4, 5)), page((1, 2, 3, 4, 5, 6)),
        )

    def test_pars_in_loops(self):
        kinds = (INT, INT, RI, RI)
        program = main_of(
            kinds,
            ((put(2, lend("ref", whole(1))),), ("go", 1)),
            ((), ("par", 2, 3, 4)),
            ((put(3, ("use", copied(2))),), JOIN),
            ((put(0, ("use", ("copy", (3, (DEREF,))))),), JOIN),
            ((), ("branch", TRUE, 1, 5)),
            ((), RETURN),
        )
        one, both = ((2, ((0, 0),)),), ((2, ((0, 0),)), (3, ((0, 0),)))
        self.check(
            program, EMPTY, page((2,), (0, 2, 3), both, (2,)), page((2,), (0, 2, 3), both, (2,)),
            page((2, 3), (0, 2, 3), both, (2, 3)), page((0, 2, 3), held=both, live=(2,)), page((0, 2, 3), held=both),
        )
        self.assertEqual(one, both[:1])

    def test_a_first_side_without_a_join_that_can_be_come_to(self):
        program = main_of(
            (INT, RI),
            ((), ("par", 1, 2, 3)),
            ((put(0, NOTHING),), ("go", 1)),
            ((put(1, lend("ref", whole(0))),), JOIN),
            ((("show", ("copy", (1, (DEREF,)))),), RETURN),
        )
        self.check(program, EMPTY, page((), (0,)), EMPTY, EMPTY)

    def test_a_join_that_cannot_be_come_to(self):
        program = main_of(
            (INT, INT),
            ((), ("par", 1, 2, 3)),
            ((), ("go", 1)),
            ((), JOIN),
            ((), RETURN),
            ((), JOIN),
        )
        self.check(program, EMPTY, EMPTY, EMPTY, EMPTY, EMPTY)

    def test_a_second_side_without_a_join(self):
        program = main_of(
            (INT, INT),
            ((put(1, NOTHING),), ("par", 1, 2, 3)),
            ((), JOIN),
            ((), ("go", 2)),
            ((), RETURN),
        )
        self.check(program, EMPTY, page((1,)), page((1,)), EMPTY)

    def test_a_par_that_cannot_be_come_to_names_the_same_blocks(self):
        program = main_of(
            (INT, INT, INT),
            ((), ("par", 1, 2, 3)),
            ((put(1, NOTHING),), JOIN),
            ((put(2, NOTHING),), JOIN),
            ((), RETURN),
            ((), ("par", 2, 1, 4)),
        )
        self.check(program, EMPTY, EMPTY, page((1,)), page((1, 2)), EMPTY)

    def test_a_reference_that_lives_in_the_second_side_alone(self):
        kinds = (INT, INT, RI)
        program = main_of(
            kinds,
            ((put(2, lend("ref", whole(1))),), ("par", 1, 2, 3)),
            ((), JOIN),
            ((put(0, ("use", ("copy", (2, (DEREF,))))),), JOIN),
            ((), RETURN),
        )
        held = ((2, ((0, 0),)),)
        self.check(program, EMPTY, page((2,), held=held, live=(2,)), page((2,), held=held, live=(2,)),
                   page((0, 2), held=held))


class ProgramTest(unittest.TestCase):

    def test_a_text_of_several_functions(self):
        program = lower(typed("""
            fn pick(v: ref vec int, n: int) -> ref int from v { return ref (*v)[n]; }
            fn main() -> int { let v: vec int = vec int; push(v, 3); let r: ref int = pick(ref v, 0); return *r; }
        """))
        held = ((1, ((-1, 1),)),)
        self.assertEqual(best_paper(program), ((((1, 2), (1, 2), held, (1,)),), (((), (), (), ()),)))

    def test_each_function_has_its_own(self):
        one = (0, (INT, INT), (((put(1, NOTHING),), ("go", 1)), ((), RETURN)), ())
        two = (1, (INT, RI), (((), RETURN),), ())
        self.assertEqual(best_paper((BOOK, (one, two, one), 0)),
                         ((EMPTY, page((1,))), (page((1,), held=((1, ((-1, 1),)),)),), (EMPTY, page((1,)))))

    def test_many_blocks(self):
        many = 100
        kinds = (INT,) + (RI,) * 100
        blocks = [((put(1, lend("ref", whole(0))),), ("go", 1))]
        blocks += [((put(at + 1, ("use", copied(at))),), ("branch", TRUE, at + 1, 1)) for at in range(1, many - 1)]
        blocks.append(((), RETURN))
        program = main_of(kinds, *blocks)
        self.assertTrue(is_mir(program))
        found = best_paper(program)
        self.assertIsNone(holds(program, found))
        self.assertEqual(found[0][many - 1], page(tuple(range(1, many)),
                                                  held=tuple((at, ((0, 0),)) for at in range(1, many))))
        self.assertEqual(found[0][1][0], (1,))
        self.assertEqual(found[0][1][1], tuple(range(1, many)))


if __name__ == "__main__":
    unittest.main()
