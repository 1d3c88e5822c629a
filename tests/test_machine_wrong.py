"""Points 7.1 to 7.7: what is wrong with runs of programs that the judge refuses, on the machine."""

import unittest

from helpers import BOOL, HELD, INT, LIST, PAIR
from machine_helpers import ALLOCATORS
from mir_helpers import DEREF, RETURN, TRUE, ZERO, copied, field, item, main_of, put, straight, whole
from oneowner.judge import taken
from oneowner.machine import run_machine
from oneowner.memory import Wrong
from oneowner.mir import is_mir

ONE = ("num", 1)
VEC, BOX = ("vec", INT), ("box", INT)
REF, MUT, REF_PAIR = ("ref", INT), ("mut", INT), ("ref", PAIR)
DONE = put(0, ("use", ZERO))
NEW_PAIR = ("record", 0, (ONE, TRUE))
NEW_BOX, NEW_VEC = ("box", ONE, INT), ("vec", INT)
FIVE = ("show", ("num", 5))


def show(place):
    return ("show", ("copy", place))


def behind(local):
    return (local, (DEREF,))


class WrongTest(unittest.TestCase):

    def run_all(self, word, program, outs, schedule=()):
        with self.subTest((word, program[1])):
            self.assertTrue(is_mir(program))
            self.assertFalse(taken(program))
            for allocator in ALLOCATORS:
                self.assertEqual(repr(run_machine(program, (), allocator, schedule, 1000)), repr((outs, word, None)))

    def ends(self, word, kinds, ahead, *found, others=(), shown=()):
        """Each of the statements ends a run with the word, behind those that stand ahead of it."""
        for statement in found:
            statements = (*ahead, FIVE, statement, ("show", ("num", 6)), DONE)
            self.run_all(word, straight((INT, *kinds), *statements, others=others), (*shown, 5))


class ErrorTest(unittest.TestCase):

    def test_the_exception(self):
        error = Wrong("race")
        self.assertIsInstance(error, Exception)
        self.assertEqual(error.word, "race")


class NoRoomTest(WrongTest):
    """A local without a room has no address."""

    kinds = (INT, BOOL, PAIR, LIST, BOX, VEC, REF, MUT, ("vec", PAIR), PAIR, HELD)

    def test_before_it_gets_a_value(self):
        self.ends(
            "unowned", self.kinds, (),
            put(0, ("use", copied(1))), show(whole(1)), show(whole(2)), show(field(3, 0)),
            put(0, ("op", "+", ZERO, copied(1))),
            put(2, ("not", copied(2))), put(10, ("use", ("move", 3))), put(7, ("lend", "ref", whole(1))),
            put(8, ("lend", "mut", field(3, 0))), put(0, ("len", whole(6))), put(0, ("unbox", 5)), ("open", 3, (1, 2)),
            ("unpack", 4, 0, ()), ("push", whole(6), ZERO), ("take", 1, whole(6)), ("set", field(3, 0), ("use", ZERO)),
            ("set", behind(5), ("use", ZERO)), ("set", item(6, ZERO), ("use", ZERO)), show(behind(7)), show(behind(5)),
            show(item(6, ZERO)), put(7, ("use", copied(7))), put(8, ("use", ("move", 8))),
            ("push", whole(9), ("move", 3)),
            put(7, ("lend", "ref", item(6, ZERO))), ("take", 10, field(11, 1)),
        )

    def test_behind_its_end(self):
        ahead = (
            put(1, ("use", ONE)), put(3, NEW_PAIR), put(5, NEW_BOX), put(6, NEW_VEC), ("push", whole(6), ONE),
            put(7, ("lend", "ref", whole(1))), put(4, ("variant", 0, 0, ())),
            ("end", 1), ("end", 3), ("end", 5), ("end", 6), ("end", 7), ("end", 4),
        )
        self.ends(
            "unowned", self.kinds, ahead,
            show(whole(1)), show(field(3, 1)), put(10, ("use", ("move", 3))), put(0, ("unbox", 5)), show(item(6, ZERO)),
            put(0, ("len", whole(6))), show(behind(7)), ("unpack", 4, 0, ()), ("set", field(3, 0), ("use", ZERO)),
            ("push", whole(6), ZERO),
        )

    def test_ways(self):
        for way in (("branch", copied(1), 1, 1), ("switch", whole(2), (1, 1, 1))):
            self.run_all("unowned", main_of((INT, BOOL, LIST), ((FIVE,), way), ((DONE,), RETURN)), (5,))

    def test_a_return_without_a_result(self):
        self.run_all("unowned", straight((INT, INT), FIVE), (5,))
        other = (0, (PAIR,), (((), RETURN),), ())
        self.run_all("unowned", straight((INT, PAIR), FIVE, ("call", 1, 1, ()), DONE, others=(other,)), (5,))

    def test_a_record_without_words(self):
        book = (((), (INT,)), ())
        kinds = (INT, ("record", 0), ("record", 0), ("ref", ("record", 0)))
        for statement in (put(2, ("use", ("move", 1))), put(3, ("lend", "ref", whole(1))), ("open", 1, ())):
            self.run_all("unowned", straight(kinds, FIVE, statement, DONE, book=book), (5,))
            self.run_all("unowned", straight(kinds, put(1, ("record", 0, ())), ("end", 1), FIVE, statement, DONE,
                                             book=book),
                         (5,))
        # It has no words that could not be set.
        program = straight(kinds, put(1, ("record", 0, ())), ("open", 1, ()), ("open", 1, ()), FIVE, DONE, book=book)
        self.assertFalse(taken(program))
        self.assertEqual(run_machine(program, (), ("first", 1), (), 100), ((5,), "done", 0))

    def test_what_needs_no_address(self):
        for statement in (("drop", 1), ("end", 1), ("drop", 3), ("end", 3), ("end", 7), ("drop", 6)):
            program = straight((INT, *self.kinds), statement, FIVE, DONE)
            for allocator in ALLOCATORS:
                self.assertEqual(run_machine(program, (), allocator, (), 100), ((5,), "done", 0))


class NotSetTest(WrongTest):
    """A local with a room whose cells are not set."""

    kinds = (INT, BOOL, PAIR, LIST, BOX, VEC, REF, MUT, PAIR, BOX)

    def test_behind_a_drop(self):
        ahead = (
            put(1, ("use", ONE)), put(3, NEW_PAIR), put(5, NEW_BOX), put(6, NEW_VEC), put(7, ("lend", "ref", whole(1))),
            put(4, ("variant", 0, 0, ())), ("drop", 1), ("drop", 3), ("drop", 5), ("drop", 6), ("drop", 7), ("drop", 4),
        )
        self.ends(
            "unset", self.kinds, ahead,
            show(whole(1)), show(field(3, 1)), put(9, ("use", ("move", 3))), put(0, ("unbox", 5)), show(item(6, ZERO)),
            put(0, ("len", whole(6))), show(behind(7)), show(behind(5)), ("unpack", 4, 0, ()), ("push", whole(6), ZERO),
            ("take", 1, whole(6)), ("set", item(6, ZERO), ("use", ZERO)), ("set", behind(5), ("use", ZERO)),
            put(0, ("use", ("copy", (4, (("part", 1, 0),))))), ("open", 3, (1, 2)), put(8, ("lend", "mut", behind(5))),
        )

    def test_behind_a_move(self):
        ahead = (put(3, NEW_PAIR), put(9, ("use", ("move", 3))), put(5, NEW_BOX), put(10, ("use", ("move", 5))))
        self.ends("unset", self.kinds, ahead, show(field(3, 0)), put(9, ("use", ("move", 3))), show(behind(5)),
                  put(0, ("unbox", 5)), ("open", 3, (1, 2)))
        self.ends("unset", self.kinds, (put(1, ("use", ONE)), put(8, ("lend", "mut", whole(1))),
                                        put(8, ("use", ("move", 8))), put(8, ("lend", "mut", behind(8))), ("drop", 8)),
                  ("set", behind(8), ("use", ZERO)))

    def test_behind_what_takes_apart(self):
        for ahead, statement in (
            ((put(3, NEW_PAIR), ("open", 3, (1, 2))), show(field(3, 0))),
            ((put(3, NEW_PAIR), ("open", 3, (1, 2))), ("open", 3, (1, 2))),
            ((put(4, ("variant", 0, 0, ())), ("unpack", 4, 0, ())),
             ("unpack", 4, 0, ())),
            ((put(5, NEW_BOX), put(0, ("unbox", 5))), put(0, ("unbox", 5))),
            ((put(5, NEW_BOX), put(0, ("unbox", 5))), show(behind(5))),
        ):
            self.ends("unset", self.kinds, ahead, statement)

    def test_a_record_that_is_set_in_part(self):
        ahead = (put(3, NEW_PAIR), ("drop", 3), ("set", field(3, 0), ("use", ("num", 8))), show(field(3, 0)))
        self.ends("unset", self.kinds, ahead, show(field(3, 1)), put(9, ("use", ("move", 3))), ("open", 3, (1, 2)),
                  shown=(8,))

    def test_what_was_lent_and_is_not_set_any_more(self):
        for ahead in (
            (put(1, ("use", ONE)), put(7, ("lend", "ref", whole(1))), ("drop", 1)),
            (put(3, NEW_PAIR), put(7, ("lend", "ref", field(3, 0))), put(9, ("use", ("move", 3)))),
            (put(3, NEW_PAIR), put(7, ("lend", "ref", field(3, 0))), ("open", 3, (1, 2))),
            (put(6, NEW_VEC), ("push", whole(6), ONE), put(7, ("lend", "ref", item(6, ZERO))), ("take", 1, whole(6))),
        ):
            self.ends("unset", self.kinds, ahead, show(behind(7)))

    def test_ways_and_returns(self):
        self.run_all("unset", main_of((INT, BOOL), ((put(1, ("use", TRUE)), ("drop", 1), FIVE),
                                                    ("branch", copied(1), 1, 1)),
                                      ((DONE,), RETURN)), (5,))
        self.run_all("unset", main_of((INT, LIST), ((put(1, ("variant", 0, 0, ())), ("drop", 1), FIVE),
                                                    ("switch", whole(1), (1, 1, 1))), ((DONE,), RETURN)), (5,))
        self.run_all("unset", straight((INT,), DONE, ("drop", 0), FIVE), (5,))

    def test_a_room_begins_anew_without_words(self):
        self.ends("unset", (PAIR, PAIR), (put(1, NEW_PAIR), ("end", 1), put(1, NEW_PAIR), ("drop", 1)),
                  show(field(1, 0)))


class OverTest(WrongTest):
    """References outlive what they lend."""

    kinds = (INT, PAIR, BOX, BOX, VEC, REF, MUT, REF_PAIR, ("box", PAIR), ("box", PAIR))

    def test_a_local_that_ended(self):
        ahead = (put(1, ("use", ONE)), put(6, ("lend", "ref", whole(1))), show(behind(6)), ("end", 1))
        self.ends("unowned", self.kinds, ahead, show(behind(6)), shown=(1,))
        # Also if the local has another room then.
        self.ends("unowned", self.kinds, ahead + (put(1, ("use", ONE)),), show(behind(6)), shown=(1,))
        ahead = (put(1, ("use", ONE)), put(7, ("lend", "mut", whole(1))), ("end", 1), put(1, ("use", ONE)))
        self.ends("unowned", self.kinds, ahead, ("set", behind(7), ("use", ZERO)))

    def test_a_frame_that_is_over(self):
        inner = (1, (REF, REF, INT), (((put(2, ("use", ONE)), put(0, ("lend", "ref", whole(2)))), RETURN),), (1,))
        params = (2, (REF, REF, INT), (((put(0, ("lend", "ref", whole(2))),), RETURN),), (1,))
        ahead = (put(1, ("use", ONE)), put(6, ("lend", "ref", whole(1))))
        self.ends("unowned", self.kinds, ahead + (("call", 6, 1, (copied(6),)),), show(behind(6)),
                  others=(inner, params))
        self.ends("unowned", self.kinds, ahead + (("call", 6, 2, (copied(6), ONE)),), show(behind(6)),
                  others=(inner, params))
        # Another frame that lies in the same place has other rooms.
        shows = (1, (INT, REF, INT), (((put(2, ("use", ONE)), FIVE, show(behind(1)), DONE), RETURN),), ())
        self.run_all("unowned", straight((INT, *self.kinds), *ahead, ("call", 6, 1, (copied(6),)),
                                         ("call", 0, 3, (copied(6),)),
                                         others=(inner, params, shows)), (5,))

    def test_what_a_box_held(self):
        lend = (put(3, NEW_BOX), put(6, ("lend", "ref", behind(3))), show(behind(6)))
        for gone in (("drop", 3), ("end", 3), put(0, ("unbox", 3)), put(3, NEW_BOX)):
            self.ends("unowned", self.kinds, lend + (gone,), show(behind(6)), shown=(1,))
            # Also if the block was given out again.
            self.ends("unowned", self.kinds, lend + (gone, put(4, NEW_BOX)), show(behind(6)), shown=(1,))
        # A box that is moved holds the same.
        program = straight((INT, *self.kinds), *lend, put(4, ("use", ("move", 3))), show(behind(6)), ("end", 4), DONE)
        self.assertEqual(run_machine(program, (), ("first", 1), (), 100), ((1, 1), "done", 0))

    def test_a_part_of_what_a_box_held(self):
        lend = (put(9, ("box", ("move", 2), PAIR)), put(6, ("lend", "ref", (9, (DEREF, ("field", 0))))))
        ahead = (put(2, NEW_PAIR),) + lend
        self.ends("unowned", self.kinds, ahead + (("drop", 9), put(3, NEW_BOX), put(4, NEW_BOX)), show(behind(6)))
        self.ends("unowned", self.kinds, ahead + (put(2, ("unbox", 9)),), show(behind(6)))

    def test_an_item_behind_its_vecs_growth(self):
        one = (put(5, NEW_VEC), ("push", whole(5), ONE), put(6, ("lend", "ref", item(5, ZERO))))
        self.ends("unowned", self.kinds, one + (("push", whole(5), ONE),), show(behind(6)))
        self.ends("unowned", self.kinds, one + (("push", whole(5), ONE), put(3, NEW_BOX)), show(behind(6)))
        self.ends("unowned", self.kinds, one + (("drop", 5),), show(behind(6)))
        self.ends("unowned", self.kinds, one + (put(5, NEW_VEC),), show(behind(6)))
        push = ("push", whole(5), ONE)
        two = (put(5, NEW_VEC), push, push, put(6, ("lend", "ref", item(5, ZERO))))
        self.ends("unowned", self.kinds, two + (push,), show(behind(6)))
        three = (put(5, NEW_VEC), push, push, push, put(6, ("lend", "ref", item(5, ZERO))))
        self.ends("unowned", self.kinds, three + (push, push), show(behind(6)))
        # It does not grow as long as there is room.
        for ahead, more, ends in ((three, (push,), ("end", 5)), (two, (("take", 1, whole(5)), push), ("end", 5))):
            program = straight((INT, *self.kinds), *ahead, *more, show(behind(6)), ends, DONE)
            self.assertFalse(taken(program))
            for allocator in ALLOCATORS:
                self.assertEqual(run_machine(program, (), allocator, (), 100), ((1,), "done", 0))

    def test_growth_doubles_the_room(self):
        push = ("push", whole(5), ONE)
        for many in range(1, 40):
            lend = put(6, ("lend", "ref", item(5, ZERO)))
            statements = (put(5, NEW_VEC),) + (push,) * many + (lend, push, FIVE, show(behind(6)), ("end", 5), DONE)
            found = run_machine(straight((INT, *self.kinds), *statements), (), ("first", 1), (), 200)
            grows = many in (1, 2, 4, 8, 16, 32)
            self.assertEqual(found, ((5,), "unowned", None) if grows else ((5, 1), "done", 0), many)

    def test_a_vec_keeps_its_room_when_items_are_taken(self):
        push, take = ("push", whole(5), ONE), ("take", 1, whole(5))
        statements = (put(5, NEW_VEC), push, push, push, take, take, put(6, ("lend", "ref", item(5, ZERO))), push,
                      push, push,
                      show(behind(6)), ("end", 5), DONE)
        self.assertEqual(run_machine(straight((INT, *self.kinds), *statements), (), ("best", 2), (), 100),
                         ((1,), "done", 0))

    def test_an_item_behind_the_last_one(self):
        push = ("push", whole(5), ONE)
        ahead = (put(5, NEW_VEC), push, push, put(6, ("lend", "ref", item(5, ONE))), ("take", 1, whole(5)))
        self.ends("unset", self.kinds, ahead, show(behind(6)))
        program = straight((INT, *self.kinds), *ahead, ("push", whole(5), ("num", 9)), show(behind(6)), ("end", 5),
                           DONE)
        self.assertEqual(run_machine(program, (), ("next", 1), (), 100), ((9,), "done", 0))

    def test_a_reference_in_a_caller_to_what_a_callee_dropped(self):
        taker = (1, (INT, BOX), (((("end", 1), DONE), RETURN),), ())
        ahead = (put(3, NEW_BOX), put(6, ("lend", "ref", behind(3))), ("call", 0, 1, (("move", 3),)))
        self.ends("unowned", self.kinds, ahead, show(behind(6)), others=(taker,))
        self.ends("unset", self.kinds, ahead, show(behind(3)), others=(taker,))


if __name__ == "__main__":
    unittest.main()
