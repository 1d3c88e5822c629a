"""Points 4.8 to 4.10: references, places that are found or not, faults, and the order of evaluation."""

import unittest

from helpers import BOOL, HELD, INT, LIST, PAIR
from machine_helpers import compare
from mir_helpers import (
    DEREF, RETURN, TRUE, ZERO, copied, deep_item, field, function, item, main_of, put, straight, whole,
)
from oneowner.meaning import meaning
from oneowner.mir import is_mir

DONE = put(0, ("use", ZERO))
VEC, BOX = ("vec", INT), ("box", INT)
ONE = ("num", 1)
MANY = ("num", 2 ** 32 - 1)
PAIR_OF_1 = ("record", 0, (ONE, TRUE))


def num(number):
    return ("num", number)


def shown(operand):
    return ("show", operand)


def lent(target, word, place):
    return put(target, ("lend", word, place))


class MeaningTest(unittest.TestCase):

    def run_program(self, program, outs, word, inputs=()):
        with self.subTest((outs, word)):
            self.assertTrue(is_mir(program))
            result = 0 if word == "done" else None
            self.assertEqual(repr(meaning(program, inputs, 1000)), repr((outs, word, result)))
            compare(self, program, inputs)

    def done(self, kinds, statements, *outs):
        self.run_program(straight((INT, *kinds), *statements, DONE), outs, "done")

    def ends(self, word, kinds, ahead, *found):
        """Each of the statements found ends a run with the word, behind those that stand ahead of it."""
        for statement in found:
            statements = (*ahead, shown(num(5)), statement, shown(num(6)), DONE)
            self.run_program(straight((INT, *kinds), *statements), (5,), word)


class ReferenceTest(MeaningTest):

    def test_references_to_whole_locals(self):
        self.done((INT, ("ref", INT), ("mut", INT)), [
            put(1, ("use", num(3))), lent(2, "ref", whole(1)), shown(("copy", (2, (DEREF,)))), put(1, ("use", num(4))),
            shown(("copy", (2, (DEREF,)))), lent(3, "mut", whole(1)), ("set", (3, (DEREF,)), ("use", num(5))),
            shown(copied(1)), shown(("copy", (2, (DEREF,)))), shown(("copy", (3, (DEREF,)))),
        ], 3, 4, 5, 5, 5)

    def test_copies_and_moves_of_references(self):
        self.done((INT, ("ref", INT), ("ref", INT)), [
            put(1, ("use", num(3))), lent(2, "ref", whole(1)), put(3, ("use", copied(2))), put(1, ("use", num(4))),
            shown(("copy", (3, (DEREF,)))), shown(("copy", (2, (DEREF,)))),
        ], 4, 4)
        self.done((INT, ("mut", INT), ("mut", INT)), [
            put(1, ("use", num(3))), lent(2, "mut", whole(1)), put(3, ("use", ("move", 2))),
            ("set", (3, (DEREF,)), ("use", num(4))), shown(copied(1)),
        ], 4)
        self.ends("stuck", (INT, ("mut", INT), ("mut", INT)), [
            put(1, ("use", num(3))), lent(2, "mut", whole(1)), put(3, ("use", ("move", 2))),
        ], shown(("copy", (2, (DEREF,)))), put(3, ("use", ("move", 2))), lent(3, "mut", (2, (DEREF,))))

    def test_references_to_fields_parts_boxes_and_items(self):
        ahead = [
            put(1, ("box", num(3), INT)), put(2, ("vec", PAIR)), put(3, PAIR_OF_1), ("push", whole(2), ("move", 3)),
            put(3, ("record", 0, (num(7), TRUE))), ("push", whole(2), ("move", 3)),
            put(3, ("record", 0, (num(8), TRUE))),
            put(4, ("variant", 0, 2, (TRUE, ("move", 3)))), put(5, ("record", 1,
                                                                    (("move", 1), ("move", 2), ("move", 4)))),
        ]
        kinds = (BOX, ("vec", PAIR), PAIR, LIST, HELD, ("mut", INT), ("mut", HELD))
        for projections, value in (
            ((("field", 0), DEREF), 3),
            ((("field", 1), ("index", ZERO), ("field", 0)), 1),
            ((("field", 1), ("index", ONE), ("field", 0)), 7),
            ((("field", 2), ("part", 2, 1), ("field", 0)), 8),
        ):
            self.done(kinds, ahead + [
                lent(6, "mut", (5, projections)), shown(("copy", (6, (DEREF,)))),
                ("set", (6, (DEREF,)), ("use", num(9))),
                shown(("copy", (5, projections))), ("set", (5, projections), ("use", num(10))),
                shown(("copy", (6, (DEREF,)))),
            ], value, 9, 10)
            # The same through another reference, to the whole record or to the first part of the way.
            self.done(kinds, ahead + [
                lent(7, "mut", whole(5)), lent(6, "mut", (7, (DEREF,) + projections)), shown(("copy", (6, (DEREF,)))),
                ("set", (6, (DEREF,)), ("use", num(9))), shown(("copy", (7, (DEREF,) + projections))),
                shown(("copy", (5, projections))), ("end", 7), shown(("copy", (6, (DEREF,)))),
            ], value, 9, 9, 9)

    def test_references_through_references(self):
        list_of = ("box", LIST)
        self.done((LIST, list_of, LIST, ("mut", LIST), ("mut", list_of), ("mut", LIST), ("mut", INT)), [
            put(3, ("variant", 0, 0, ())), put(2, ("box", ("move", 3), LIST)),
            put(3, ("variant", 0, 1, (num(2), ("move", 2)))),
            put(2, ("box", ("move", 3), LIST)), put(1, ("variant", 0, 1, (ONE, ("move", 2)))), lent(4, "mut", whole(1)),
            lent(5, "mut", (4, (DEREF, ("part", 1, 1)))), lent(6, "mut", (5, (DEREF, DEREF))),
            lent(7, "mut", (6, (DEREF, ("part", 1, 0)))), shown(("copy", (7, (DEREF,)))),
            ("set", (7, (DEREF,)), ("use", num(3))), shown(("copy", (1, (("part", 1, 1), DEREF, ("part", 1, 0))))),
            ("drop", 4), ("drop", 5), ("drop", 6), shown(("copy", (7, (DEREF,)))),
        ], 2, 3, 3)

    def test_a_reference_keeps_the_number_of_its_index(self):
        self.done((VEC, INT, ("ref", INT)), [
            put(1, ("vec", INT)), ("push", whole(1), num(3)), ("push", whole(1), num(4)), put(2, ("use", ZERO)),
            lent(3, "ref", item(1, copied(2))), put(2, ("use", ONE)), shown(("copy", (3, (DEREF,)))), ("end", 2),
            shown(("copy", (3, (DEREF,)))), ("set", item(1, ZERO), ("use", num(5))), shown(("copy", (3, (DEREF,)))),
        ], 3, 3, 5)

    def test_references_over_calls(self):
        change = function(2, (INT, ("mut", INT), ("ref", INT)), ("set", (1, (DEREF,)),
                                                                 ("use", ("copy", (2, (DEREF,))))), DONE)
        further = function(2, (INT, ("mut", INT), ("ref", INT), ("mut", INT)), lent(3, "mut", (1, (DEREF,))),
                           ("call", 0, 1, (("move", 3), copied(2))))
        kinds = (INT, INT, INT, ("mut", INT), ("ref", INT))
        for called in (1, 2):
            self.run_program(straight(kinds, put(1, ("use", num(3))), put(2, ("use", num(4))), lent(3, "mut", whole(1)),
                                      lent(4, "ref", whole(2)), ("call", 0, called, (("move", 3), copied(4))),
                                      shown(copied(1)), others=(change, further)), (4,), "done")

    def test_references_that_calls_return(self):
        first = function(1, (("ref", INT), ("ref", PAIR)), lent(0, "ref", (1, (DEREF, ("field", 0)))), lenders=(1,))
        changed = function(1, (("mut", INT), ("mut", VEC)), lent(0, "mut", (1, (DEREF, ("index", ONE)))), lenders=(1,))
        self.run_program(straight(
            (INT, PAIR, ("ref", PAIR), ("ref", INT), VEC, ("mut", VEC), ("mut", INT)),
            put(1, PAIR_OF_1), lent(2, "ref", whole(1)), ("call", 3, 1, (copied(2),)), shown(("copy", (3, (DEREF,)))),
            ("set", field(1, 0), ("use", num(2))), shown(("copy", (3, (DEREF,)))), put(4, ("vec", INT)),
            ("push", whole(4), num(3)), ("push", whole(4), num(4)), lent(5, "mut", whole(4)),
            ("call", 6, 2, (("move", 5),)), ("set", (6, (DEREF,)), ("use", num(5))), shown(("copy", item(4, ONE))),
            DONE,
            others=(first, changed)), (1, 2, 5), "done")

    def test_the_same_local_of_several_frames(self):
        # Each call lends its own local 1, and sees what its caller lent of its own.
        nested = (2, (INT, INT, ("ref", INT), INT, ("ref", INT), BOOL), (
            ((shown(("copy", (2, (DEREF,)))), put(5, ("op", "==", copied(1), ZERO))), ("branch", copied(5), 1, 2)),
            ((DONE,), RETURN),
            ((put(3, ("op", "-", copied(1), ONE)), lent(4, "ref", whole(1)), ("call", 0, 1, (copied(3), copied(4))),
              shown(("copy", (2, (DEREF,))))), RETURN),
        ), ())
        self.run_program(straight((INT, INT, ("ref", INT)), put(1, ("use", num(9))), lent(2, "ref", whole(1)),
                                  ("call", 0, 1, (num(2), copied(2))), others=(nested,)), (9, 2, 1, 2, 9), "done")


class StuckTest(MeaningTest):

    def test_locals_that_are_not_there(self):
        kinds = (INT, BOOL, PAIR, HELD, LIST, BOX, VEC, ("vec", PAIR), ("ref", INT), ("mut", VEC), INT, ("ref", VEC),
                 PAIR)
        there = [put(11, ("use", ZERO))]
        self.ends(
            "stuck", kinds, there, shown(copied(1)), shown(copied(2)), shown(("copy", field(3, 0))),
            shown(("copy", (6, (DEREF,)))), shown(("copy", item(7, ZERO))), shown(("copy", (5, (("part", 1, 0),)))),
            shown(("copy", (9, (DEREF,)))), put(13, ("use", ("move", 3))), put(9, ("use", copied(9))),
            ("set", field(3, 0), ("use", ZERO)), ("set", (6, (DEREF,)), ("use", ZERO)),
            ("set", item(7, ZERO), ("use", ZERO)),
            ("set", (5, (("part", 2, 0),)), ("use", TRUE)), ("set", (9, (DEREF,)), ("use", ZERO)),
            put(11, ("unbox", 6)),
            ("open", 3, (11, 2)), ("unpack", 5, 0, ()), ("unpack", 5, 2, (2, 3)), ("push", whole(7), ZERO),
            ("push", (10, (DEREF,)), ZERO), ("take", 11, whole(7)), ("take", 11, (10, (DEREF,))),
            put(11, ("len", whole(7))), put(11, ("len", (10, (DEREF,)))), put(9, ("lend", "ref", whole(1))),
            put(9, ("lend", "ref", field(3, 0))), put(10, ("lend", "mut", whole(7))),
            put(12, ("lend", "ref", (10, (DEREF,)))),
            put(11, ("op", "+", copied(1), ZERO)), put(11, ("op", "+", ZERO, copied(1))), put(2, ("not", copied(2))),
            put(3, ("record", 0, (copied(11), copied(2)))), put(6, ("box", copied(1), INT)),
            put(5, ("variant", 0, 2, (TRUE, ("move", 3)))), shown(("copy", item(7, copied(11)))),
        )

    def test_ways_and_calls(self):
        callee = function(1, (INT, INT), DONE)
        nothing = function(0, (INT,))
        self.run_program(straight((INT, INT), shown(ONE), ("call", 0, 1, (copied(1),)), others=(callee,)), (1,),
                         "stuck")
        self.run_program(straight((INT, INT), shown(ONE), ("call", 0, 1, ()), shown(ONE), others=(nothing,)), (1,),
                         "stuck")
        self.run_program(straight((INT, INT), shown(ONE)), (1,), "stuck")
        self.run_program(straight((INT, INT), DONE, ("end", 0)), (), "stuck")
        self.run_program(straight((INT, PAIR, BOOL), put(1, PAIR_OF_1), ("open", 1, (0, 2)), shown(copied(0)),
                                  ("drop", 0)), (1,), "stuck")
        self.run_program(main_of((INT, BOOL), ((shown(ONE),), ("branch", copied(1), 1, 1)), ((DONE,), RETURN)), (1,),
                         "stuck")
        self.run_program(main_of((INT, LIST), ((shown(ONE),), ("switch", whole(1), (1, 1, 1))), ((DONE,), RETURN)),
                         (1,), "stuck")

    def test_a_local_of_a_frame_that_is_over(self):
        away = function(2, (("ref", INT), ("ref", INT), INT), lent(0, "ref", whole(2)), lenders=(1,))
        kinds = (INT, INT, ("ref", INT), ("ref", INT), INT)
        ahead = (put(1, ("use", ONE)), lent(2, "ref", whole(1)), ("call", 3, 1, (copied(2), num(2))), shown(num(5)))
        for used in (shown(("copy", (3, (DEREF,)))), lent(3, "ref", (3, (DEREF,)))):
            self.run_program(straight(kinds, *ahead, used, DONE, others=(away,)), (5,), "stuck")
        # Another call that has the same locals does not bring it back.
        self.run_program(straight(kinds, *ahead, ("call", 3, 1, (copied(2), num(2))), shown(("copy", (3, (DEREF,)))),
                                  DONE,
                                  others=(away,)), (5,), "stuck")
        inner = function(1, (INT, ("ref", INT)), shown(("copy", (1, (DEREF,)))), DONE)
        self.run_program(straight(kinds, *ahead, ("call", 0, 2, (copied(3),)), others=(away, inner)), (5,), "stuck")
        # It is the use of what it lends that is stuck, not that of the reference.
        self.run_program(straight(kinds, *ahead, put(2, ("use", copied(3))), DONE, others=(away,)), (5,), "done")

    def test_what_a_reference_lends_is_not_there(self):
        kinds = (INT, PAIR, BOX, VEC, LIST, ("ref", INT), PAIR, BOX, INT, BOOL, LIST, ("box", LIST), INT)
        made = [
            put(1, ("use", ONE)), put(2, PAIR_OF_1), put(3, ("box", ONE, INT)), put(4, ("vec", INT)),
            ("push", whole(4), ONE), ("push", whole(4), num(2)), put(11, ("variant", 0, 0, ())),
            put(12, ("box", ("move", 11), LIST)), put(5, ("variant", 0, 1, (ONE, ("move", 12)))),
            put(11, ("variant", 0, 0, ())), put(12, ("box", ("move", 11), LIST)),
        ]
        used = (shown(("copy", (6, (DEREF,)))), lent(6, "ref", (6, (DEREF,))), ("set", (6, (DEREF,)), ("use", ZERO)))
        for place, gone in (
            (whole(1), ("drop", 1)), (whole(1), ("end", 1)), (field(2, 0), ("drop", 2)),
            (field(2, 0), put(7, ("use", ("move", 2)))), (field(2, 0), ("open", 2, (9, 10))),
            ((3, (DEREF,)), put(9, ("unbox", 3))), ((3, (DEREF,)), put(8, ("use", ("move", 3)))),
            (item(4, ONE), ("take", 9, whole(4))), (item(4, ONE), put(4, ("vec", INT))),
            (item(4, ZERO), put(4, ("vec", INT))),
            ((5, (("part", 1, 0),)), put(5, ("variant", 0, 0, ()))),
            ((5, (("part", 1, 0),)), put(5, ("variant", 0, 2, (TRUE, ("move", 2))))),
            ((5, (("part", 1, 0),)), ("unpack", 5, 1, (9, 12))),
        ):
            self.ends("stuck", kinds, [*made, lent(6, "ref", place), gone], *used)
            self.run_program(straight((INT, *kinds), *made, lent(6, "ref", place), gone, DONE), (), "done")

    def test_a_place_that_is_there_again(self):
        kinds = (INT, PAIR, BOX, VEC, LIST, ("ref", INT), ("box", LIST), LIST)
        for place, made in (
            (whole(1), [put(1, ("use", num(3)))]),
            (field(2, 0), [put(2, ("record", 0, (num(3), TRUE)))]),
            ((3, (DEREF,)), [put(3, ("box", num(3), INT))]),
            (item(4, ZERO), [put(4, ("vec", INT)), ("push", whole(4), num(3))]),
            ((5, (("part", 1, 0),)), [put(8, ("variant", 0, 0, ())), put(7, ("box", ("move", 8), LIST)),
                                      put(5, ("variant", 0, 1, (num(3), ("move", 7))))]),
        ):
            local = place[0]
            self.done(kinds, [*made, lent(6, "ref", place), ("drop", local), *made, shown(("copy", (6, (DEREF,)))),
                              ("set", place, ("use", num(4))), shown(("copy", (6, (DEREF,))))], 3, 4)
            self.done(kinds, [*made, lent(6, "ref", place), *made, shown(("copy", (6, (DEREF,))))], 3)


class FaultTest(MeaningTest):

    def test_bound(self):
        kinds = (VEC, INT, ("ref", INT), ("mut", VEC), ("vec", VEC), VEC)
        ahead = [put(1, ("vec", INT)), ("push", whole(1), ONE), ("push", whole(1), num(9)), put(2, ("use", num(2))),
                 put(5, ("vec", VEC)), put(6, ("vec", INT))]
        for operand in (num(2), num(3), MANY, copied(2), ("copy", item(1, ONE))):
            self.ends("bound", kinds, ahead, shown(("copy", item(1, operand))),
                      ("set", item(1, operand), ("use", ZERO)),
                      lent(3, "ref", item(1, operand)), put(2, ("use", ("copy", item(1, operand)))))
        self.ends("bound", kinds, ahead, ("push", item(5, ZERO), ZERO), ("take", 2, item(5, ZERO)),
                  put(2, ("len", item(5, ZERO))), shown(("copy", item(1, ("copy", item(1, num(2)))))),
                  shown(("copy", item(6, ZERO))), lent(4, "mut", item(5, ZERO)))
        self.ends("bound", kinds, ahead + [lent(4, "mut", whole(1))], shown(("copy", (4, (DEREF, ("index", num(2)))))))
        self.done(kinds, ahead + [shown(("copy", item(1, ONE)))], 9)

    def test_empty(self):
        kinds = (VEC, INT, ("mut", VEC))
        ahead = [put(1, ("vec", INT)), lent(3, "mut", whole(1))]
        self.ends("empty", kinds, ahead, ("take", 2, whole(1)), ("take", 2, (3, (DEREF,))))
        self.ends("empty", kinds, ahead + [("push", whole(1), ONE), ("take", 2, whole(1))], ("take", 2, whole(1)))

    def test_tag(self):
        kinds = (LIST, INT, ("box", LIST), BOOL, PAIR, ("ref", INT), ("mut", LIST))
        ahead = [put(1, ("variant", 0, 0, ())), lent(7, "mut", whole(1))]
        self.ends("tag", kinds, ahead, ("unpack", 1, 1, (2, 3)), ("unpack", 1, 2, (4, 5)),
                  shown(("copy", (1, (("part", 1, 0),)))), shown(("copy", (1, (("part", 2, 1), ("field", 0))))),
                  ("set", (1, (("part", 1, 0),)), ("use", ZERO)), lent(6, "ref", (1, (("part", 1, 0),))),
                  shown(("copy", (7, (DEREF, ("part", 2, 0))))))
        ahead = [put(5, PAIR_OF_1), put(1, ("variant", 0, 2, (TRUE, ("move", 5))))]
        self.ends("tag", kinds, ahead, ("unpack", 1, 0, ()), ("unpack", 1, 1, (2, 3)),
                  shown(("copy", (1, (("part", 1, 0),)))))

    def test_a_fault_of_a_call_ends_the_run(self):
        bad = function(1, (INT, VEC), shown(num(2)), put(0, ("use", ("copy", item(1, ZERO)))), shown(num(3)))
        self.run_program(straight((INT, VEC), put(1, ("vec", INT)), shown(ONE), ("call", 0, 1, (("move", 1),)),
                                  shown(ONE),
                                  others=(bad,)), (1, 2), "bound")

    def test_a_fault_in_a_way(self):
        self.run_program(main_of((INT, ("vec", BOOL)), ((put(1, ("vec", BOOL)), shown(ONE)),
                                                        ("branch", ("copy", item(1, ZERO)), 1, 1)), ((DONE,), RETURN)),
                         (1,), "bound")
        self.run_program(main_of((INT, ("vec", LIST)), ((put(1, ("vec", LIST)), shown(ONE)),
                                                        ("switch", item(1, ZERO), (1, 1, 1))), ((DONE,), RETURN)),
                         (1,), "bound")


class OrderTest(MeaningTest):

    # Local 1 is not there; local 2 is a vec of one item; local 3 is a variant of the tag 0.
    KINDS = (INT, VEC, LIST, PAIR, BOOL, ("vec", VEC), ("ref", INT), INT, PAIR, HELD, BOX, ("vec", PAIR))
    AHEAD = [put(2, ("vec", INT)), ("push", whole(2), ZERO), put(3, ("variant", 0, 0, ())), put(8, ("use", ZERO))]
    STUCK = copied(1)
    BOUND = ("copy", item(2, ONE))
    TAG = ("copy", (3, (("part", 1, 0),)))
    TAG_BOOL = ("copy", (3, (("part", 2, 0),)))

    def test_operands_from_left_to_right(self):
        operands = {"stuck": self.STUCK, "bound": self.BOUND, "tag": self.TAG}
        for one, first in operands.items():
            for other, second in operands.items():
                if one != other:
                    self.ends(one, self.KINDS, self.AHEAD, put(8, ("op", "+", first, second)),
                              put(5, ("op", "<", first, second)))
            self.ends(one, self.KINDS, self.AHEAD, *[
                put(4, ("record", 0, (first, self.TAG_BOOL))), put(4, ("record", 0, (first, ("truth", True)))),
            ])
        self.ends("tag", self.KINDS, self.AHEAD, put(3, ("variant", 0, 2, (self.TAG_BOOL, ("move", 4)))))
        self.ends("stuck", self.KINDS, self.AHEAD, put(10, ("record", 1, (("move", 11), ("move", 12), ("move", 3)))))

    def test_a_move_counts_for_what_is_behind_it(self):
        both = function(2, (INT, PAIR, INT), DONE)
        kinds = (INT, PAIR)
        self.run_program(straight(kinds, put(1, PAIR_OF_1), ("call", 0, 1, (("move", 1), ("copy", field(1, 0)))),
                                  others=(both,)), (), "stuck")
        swapped = function(2, (INT, INT, PAIR), DONE)
        self.run_program(straight(kinds, put(1, PAIR_OF_1), ("call", 0, 1, (("copy", field(1, 0)), ("move", 1))),
                                  others=(swapped,)), (), "done")

    def test_the_right_side_of_a_set_ahead_of_its_place(self):
        for value, word in ((self.STUCK, "stuck"), (self.BOUND, "bound"), (self.TAG, "tag")):
            for place in (item(2, ONE), (3, (("part", 1, 0),)), field(4, 0), item(2, self.STUCK), (7, (DEREF,))):
                self.ends(word, self.KINDS, self.AHEAD, ("set", place, ("use", value)))
        made = self.AHEAD + [put(6, ("vec", VEC))]
        self.ends("bound", self.KINDS, made, ("set", (3, (("part", 1, 0),)), ("len", item(6, ZERO))),
                  ("set", field(4, 0), ("len", item(6, ZERO))))
        # What the right side moves is not there for the place.
        box = (PAIR, ("box", PAIR), PAIR)
        self.run_program(straight((INT, *box), put(1, PAIR_OF_1), put(2, ("box", ("move", 1), PAIR)),
                                  ("set", (2, (DEREF,)), ("unbox", 2)), DONE), (), "stuck")

    def test_the_operand_of_a_push_ahead_of_its_place(self):
        self.ends("stuck", self.KINDS, self.AHEAD + [put(6, ("vec", VEC))], ("push", item(6, ZERO), self.STUCK))
        self.ends("tag", self.KINDS, self.AHEAD + [put(6, ("vec", VEC))], ("push", item(6, ZERO), self.TAG))
        self.ends("bound", self.KINDS, self.AHEAD + [put(6, ("vec", VEC))], ("push", item(6, ZERO), ZERO))
        book = ((), (((), (("vec", ("variant", 0)),)),))
        tree = ("variant", 0)
        self.run_program(straight((INT, tree, ("vec", tree)), put(2, ("vec", tree)),
                                  put(1, ("variant", 0, 1, (("move", 2),))),
                                  ("push", (1, (("part", 1, 0),)), ("move", 1)), DONE, book=book), (), "stuck")

    def test_a_place_from_the_left(self):
        # The local ahead of the operand of an index, that one ahead of what is behind it.
        self.ends("stuck", self.KINDS, self.AHEAD, shown(("copy", (6, (("index", self.BOUND), ("index", ZERO))))))
        made = self.AHEAD + [put(6, ("vec", VEC))]
        self.ends("bound", self.KINDS, made, shown(("copy", (6, (("index", self.BOUND), ("index", self.STUCK))))),
                  shown(("copy", (6, (("index", ZERO), ("index", self.STUCK))))),
                  shown(("copy", (6, (("index", ZERO), ("index", self.TAG))))))
        self.ends("stuck", self.KINDS, made, shown(("copy", (6, (("index", self.STUCK), ("index", self.BOUND))))))
        self.ends("tag", self.KINDS, made, shown(("copy", (6, (("index", self.TAG), ("index", self.BOUND))))))
        filled = made + [put(2, ("vec", INT)), ("push", whole(6), ("move", 2)), put(2, ("vec", INT))]
        self.ends("stuck", self.KINDS, filled, shown(("copy", (6, (("index", ZERO), ("index", self.STUCK))))))
        self.ends("bound", self.KINDS, filled, shown(("copy", (6, (("index", ZERO), ("index", ZERO))))))

    def test_places_within_the_indexes_of_places(self):
        ahead = [put(1, ("vec", INT)), ("push", whole(1), ONE), ("push", whole(1), ZERO), put(2, ("use", ONE))]
        for many in (1, 2, 3000, 3001):
            wanted = many % 2
            self.done((VEC, INT), ahead + [shown(("copy", deep_item(1, copied(2), many))),
                                           ("set", deep_item(1, copied(2), many), ("use", num(7))),
                                           shown(("copy", item(1, num(1 - wanted))))], wanted, 7)
            self.ends("bound", (VEC, INT), ahead, shown(("copy", deep_item(1, num(2), many))))
            self.ends("stuck", (VEC, INT, INT), ahead, shown(("copy", deep_item(1, copied(3), many))))

    def test_the_operands_of_a_call_ahead_of_it(self):
        callee = function(2, (INT, INT, INT), shown(num(7)), DONE)
        for operands, word in (((self.STUCK, self.BOUND), "stuck"), ((self.BOUND, self.STUCK), "bound"),
                               ((ZERO, self.TAG), "tag")):
            self.run_program(straight((INT, *self.KINDS), *self.AHEAD, ("call", 0, 1, operands), others=(callee,)), (),
                             word)

    def test_the_item_of_a_take_ahead_of_its_target(self):
        book = ((), (((), (("vec", ("variant", 0)),)),))
        tree = ("variant", 0)
        self.run_program(straight((INT, tree, ("vec", tree)), put(2, ("vec", tree)),
                                  put(1, ("variant", 0, 1, (("move", 2),))),
                                  ("take", 1, (1, (("part", 1, 0),))), DONE, book=book), (), "empty")


if __name__ == "__main__":
    unittest.main()
