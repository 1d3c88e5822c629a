"""Points 4.4 and 4.8 to 4.10: what statements, rvalues and operands do."""

import unittest

from helpers import BOOL, HELD, INT, LIST, PAIR, WAY
from machine_helpers import compare
from mir_helpers import (
    DEREF, RETURN, TRUE, ZERO, copied, field, function, item, main_of, put, straight, whole,
)
from oneowner.meaning import meaning
from oneowner.mir import is_mir

DONE = put(0, ("use", ZERO))
MOST = 2 ** 32 - 1
VEC, BOX = ("vec", INT), ("box", INT)


def num(number):
    return ("num", number)


def shown(operand):
    return ("show", operand)


class MeaningTest(unittest.TestCase):

    def check(self, program, outs, word="done", result=0, inputs=(), steps=1000):
        with self.subTest((program[1], inputs)):
            self.assertTrue(is_mir(program))
            self.assertEqual(repr(meaning(program, inputs, steps)), repr((outs, word,
                                                                          result if word == "done" else None)))
            compare(self, program, inputs)

    def rows(self, kinds, statements, *outs):
        """What statements show that are the whole of main, whose local 0 is an int."""
        self.check(straight((INT, *kinds), *statements, DONE), outs)


class OperandTest(MeaningTest):

    def test_numbers_and_truths(self):
        self.rows((), [shown(num(0)), shown(num(MOST)), shown(TRUE), shown(("truth", False))], 0, MOST, True, False)

    def test_inputs_and_results(self):
        for kinds, inputs in (((INT,), (7,)), ((BOOL,), (True,)), ((INT, BOOL, INT), (MOST, False, 0)), ((), ())):
            for at in range(len(kinds)):
                program = straight((kinds[at], *kinds), put(0, ("use", copied(at + 1))), params=len(kinds))
                self.check(program, (), result=inputs[at], inputs=inputs)

    def test_copies_leave_what_they_copy(self):
        self.rows((INT, BOOL), [put(1, ("use", num(5))), put(2, ("use", TRUE)), shown(copied(1)), shown(copied(1)),
                                shown(copied(2)), shown(copied(2))], 5, 5, True, True)

    def test_moves(self):
        pair = ("record", 0, (num(1), TRUE))
        self.rows((PAIR, PAIR), [put(1, pair), put(2, ("use", ("move", 1))), shown(("copy", field(2, 0)))], 1)
        self.check(straight((INT, PAIR, PAIR), put(1, pair), put(2, ("use", ("move", 1))), shown(("copy", field(1, 0))),
                            DONE), (), "stuck")

    def test_what_is_copied_is_not_shared(self):
        self.rows((INT, INT), [put(1, ("use", num(1))), put(2, ("use", copied(1))), put(1, ("use", num(2))),
                               shown(copied(2)), shown(copied(1))], 1, 2)


class OperatorTest(MeaningTest):

    def operator(self, sign, *rows):
        for one, other, value in rows:
            kind = BOOL if isinstance(value, bool) else INT
            for operands in ((num(one), num(other)), (copied(1), copied(2))):
                program = straight((INT, INT, INT, kind), put(3, ("op", sign, *operands)), shown(copied(3)), DONE,
                                   params=2)
                self.check(program, (value,), inputs=(one, other))

    def test_sums_differences_and_products(self):
        self.operator("+", (0, 0, 0), (1, 2, 3), (MOST, 1, 0), (MOST, MOST, MOST - 1), (2 ** 31, 2 ** 31, 0))
        self.operator("-", (0, 0, 0), (5, 2, 3), (2, 5, MOST - 2), (0, 1, MOST), (0, MOST, 1), (MOST, MOST, 0))
        self.operator("*", (0, MOST, 0), (3, 4, 12), (2 ** 16, 2 ** 16, 0), (MOST, MOST, 1), (2 ** 31, 3, 2 ** 31),
                      (MOST, 2, MOST - 1))

    def test_comparisons(self):
        self.operator("<", (0, 0, False), (0, 1, True), (1, 0, False), (MOST - 1, MOST, True), (MOST, 0, False),
                      (2 ** 31, 2 ** 31 - 1, False), (MOST, MOST, False))
        self.operator("==", (0, 0, True), (0, 1, False), (1, 0, False), (MOST, MOST, True), (0, MOST, False),
                      (1, 1, True))

    def test_not(self):
        self.rows((BOOL, BOOL), [put(1, ("not", TRUE)), shown(copied(1)), put(2, ("not", copied(1))), shown(copied(2))],
                  False, True)


class RecordTest(MeaningTest):

    def test_fields(self):
        self.rows((PAIR,), [
            put(1, ("record", 0, (num(3), TRUE))), shown(("copy", field(1, 0))), shown(("copy", field(1, 1))),
            ("set", field(1, 0), ("use", num(4))), ("set", field(1, 1), ("not", ("copy", field(1, 1)))),
            shown(("copy", field(1, 0))), shown(("copy", field(1, 1))),
        ], 3, True, 4, False)

    def test_fields_of_moved_kinds(self):
        self.rows((BOX, ("vec", PAIR), LIST, HELD, BOX, INT), [
            put(1, ("box", num(1), INT)), put(2, ("vec", PAIR)), put(3, ("variant", 0, 0, ())),
            put(4, ("record", 1, (("move", 1), ("move", 2), ("move", 3)))), shown(("copy", (4, (("field", 0), DEREF)))),
            put(5, ("box", num(2), INT)), ("set", field(4, 0), ("use", ("move", 5))),
            shown(("copy", (4, (("field", 0), DEREF)))), put(6, ("len", field(4, 1))), shown(copied(6)),
        ], 1, 2, 0)

    def test_opening(self):
        self.rows((PAIR, INT, BOOL), [
            put(1, ("record", 0, (num(3), TRUE))), put(2, ("use", num(9))), ("open", 1, (2, 3)), shown(copied(2)),
            shown(copied(3)),
        ], 3, True)
        self.check(straight((INT, PAIR, INT, BOOL), put(1, ("record", 0, (num(3), TRUE))), ("open", 1, (2, 3)),
                            shown(("copy", field(1, 0))), DONE), (), "stuck")
        book = (((), (INT, BOX)), ())
        self.check(straight((INT, ("record", 0), ("record", 1), INT, BOX), put(1, ("record", 0, ())), ("open", 1, ()),
                            put(4, ("box", num(5), INT)), put(2, ("record", 1, (num(1), ("move", 4)))),
                            ("open", 2, (3, 4)), shown(copied(3)), shown(("copy", (4, (DEREF,)))), DONE, book=book),
                            (1, 5))


class VariantTest(MeaningTest):

    def test_parts(self):
        self.rows((LIST, PAIR), [
            put(2, ("record", 0, (num(4), TRUE))), put(1, ("variant", 0, 2, (("truth", False), ("move", 2)))),
            shown(("copy", (1, (("part", 2, 0),)))), shown(("copy", (1, (("part", 2, 1), ("field", 0))))),
            ("set", (1, (("part", 2, 0),)), ("use", TRUE)), ("set", (1, (("part", 2, 1), ("field", 0))),
                                                             ("use", num(5))),
            shown(("copy", (1, (("part", 2, 0),)))), shown(("copy", (1, (("part", 2, 1), ("field", 0))))),
        ], False, 4, True, 5)

    def test_unpack(self):
        self.rows((LIST, PAIR, BOOL), [
            put(2, ("record", 0, (num(4), TRUE))), put(1, ("variant", 0, 2, (("truth", False), ("move", 2)))),
            ("unpack", 1, 2, (3, 2)), shown(copied(3)), shown(("copy", field(2, 0))),
        ], False, 4)
        self.rows((LIST,), [put(1, ("variant", 0, 0, ())), ("unpack", 1, 0, ()), shown(num(1))], 1)
        self.check(straight((INT, WAY), put(1, ("variant", 1, 1, ())), ("unpack", 1, 1, ()), ("unpack", 1, 1, ()),
                            DONE),
                   (), "stuck")

    def test_switch(self):
        for tag in range(3):
            values = {0: (), 1: (num(1), ("move", 3)), 2: (TRUE, ("move", 2))}[tag]
            program = main_of(
                (INT, LIST, PAIR, ("box", LIST), LIST),
                ((put(2, ("record", 0, (num(4), TRUE))), put(4, ("variant", 0, 0, ())),
                  put(3, ("box", ("move", 4), LIST)),
                  put(1, ("variant", 0, tag, values))), ("switch", whole(1), (3, 1, 2))),
                ((shown(num(11)),), ("go", 4)), ((shown(num(12)),), ("go", 4)), ((shown(num(10)),), ("go", 4)),
                ((shown(TRUE), DONE), RETURN),
            )
            self.check(program, (10 + tag, True))


class BoxTest(MeaningTest):

    def test_boxes(self):
        self.rows((BOX, INT, ("box", BOX)), [
            put(1, ("box", num(6), INT)), shown(("copy", (1, (DEREF,)))), ("set", (1, (DEREF,)), ("use", num(7))),
            shown(("copy", (1, (DEREF,)))), put(3, ("box", ("move", 1), BOX)), shown(("copy", (3, (DEREF, DEREF)))),
            put(1, ("unbox", 3)), put(2, ("unbox", 1)), shown(copied(2)),
        ], 6, 7, 7, 7)
        self.check(straight((INT, BOX, INT), put(1, ("box", num(6), INT)), put(2, ("unbox", 1)), shown(copied(2)),
                            shown(("copy", (1, (DEREF,)))), DONE), (6,), "stuck")

    def test_what_is_in_a_box_is_not_shared(self):
        self.rows((INT, BOX), [
            put(1, ("use", num(1))), put(2, ("box", copied(1), INT)), ("set", (2, (DEREF,)), ("use", num(2))),
            shown(copied(1)), put(1, ("use", num(3))), shown(("copy", (2, (DEREF,)))),
        ], 1, 2)


class VecTest(MeaningTest):

    def test_push_take_len_and_items(self):
        self.rows((VEC, INT, INT), [
            put(1, ("vec", INT)), put(2, ("len", whole(1))), shown(copied(2)), ("push", whole(1), num(5)),
            ("push", whole(1), num(6)), ("push", whole(1), num(7)), put(2, ("len", whole(1))), shown(copied(2)),
            shown(("copy", item(1, num(0)))), shown(("copy", item(1, num(2)))),
            ("set", item(1, num(0)), ("use", num(8))), ("take", 3, whole(1)), shown(copied(3)),
            ("take", 3, whole(1)), shown(copied(3)), ("take", 3, whole(1)), shown(copied(3)),
            put(2, ("len", whole(1))), shown(copied(2)), ("push", whole(1), num(9)), shown(("copy", item(1, num(0)))),
        ], 0, 3, 5, 7, 7, 6, 8, 0, 9)

    def test_vecs_are_new_ones(self):
        self.rows((VEC, VEC, INT), [
            put(1, ("vec", INT)), put(2, ("vec", INT)), ("push", whole(1), num(1)), put(3, ("len", whole(2))),
            shown(copied(3)), put(1, ("vec", INT)), put(3, ("len", whole(1))), shown(copied(3)),
        ], 0, 0)

    def test_items_of_moved_kinds(self):
        self.rows((("vec", VEC), VEC, INT), [
            put(1, ("vec", VEC)), put(2, ("vec", INT)), ("push", whole(2), num(4)), ("push", whole(1), ("move", 2)),
            put(2, ("vec", INT)), ("push", whole(1), ("move", 2)), ("push", item(1, num(1)), num(5)),
            ("push", item(1, num(0)), num(6)), put(3, ("len", item(1, num(0)))), shown(copied(3)),
            shown(("copy", (1, (("index", num(0)), ("index", num(1)))))), ("take", 2, whole(1)),
            shown(("copy", item(2, num(0)))), put(3, ("len", whole(1))), shown(copied(3)),
        ], 2, 6, 5, 1)

    def test_indexes_that_are_copied(self):
        self.rows((VEC, INT, ("ref", INT)), [
            put(1, ("vec", INT)), ("push", whole(1), num(2)), ("push", whole(1), num(0)), ("push", whole(1), num(1)),
            put(2, ("use", num(1))), put(3, ("lend", "ref", whole(2))), shown(("copy", item(1, copied(2)))),
            shown(("copy", item(1, ("copy", (3, (DEREF,)))))), shown(("copy", item(1, ("copy", item(1, num(0)))))),
            shown(("copy", item(1, ("copy", item(1, ("copy", item(1, num(1)))))))),
        ], 0, 0, 1, 1)

    def test_an_item_goes_to_the_local_that_held_the_vec(self):
        book = ((), (((), (("vec", ("variant", 0)),)),))
        tree = ("variant", 0)
        self.check(straight((INT, tree, ("vec", tree), tree), put(2, ("vec", tree)), put(3, ("variant", 0, 0, ())),
                            ("push", whole(2), ("move", 3)), put(1, ("variant", 0, 1, (("move", 2),))),
                            ("take", 1, (1, (("part", 1, 0),))), ("unpack", 1, 0, ()), DONE, book=book), ())


class DropTest(MeaningTest):

    def test_what_is_dropped_is_not_there(self):
        for word in ("drop", "end"):
            for kind, made, used in (
                (INT, ("use", ZERO), shown(copied(1))),
                (PAIR, ("record", 0, (ZERO, TRUE)), shown(("copy", field(1, 0)))),
                (BOX, ("box", ZERO, INT), shown(("copy", (1, (DEREF,))))),
                (VEC, ("vec", INT), ("push", whole(1), ZERO)),
                (("ref", INT), ("lend", "ref", whole(2)), shown(("copy", (1, (DEREF,))))),
            ):
                ahead = (put(2, ("use", ZERO)), put(1, made))
                self.check(straight((INT, kind, INT), *ahead, used, (word, 1), shown(TRUE), DONE),
                           (True,) if used[0] == "push" else (0, True))
                self.check(straight((INT, kind, INT), *ahead, (word, 1), shown(TRUE), used, DONE), (True,), "stuck")
                # What is not there may be dropped, and set again.
                self.check(straight((INT, kind, INT), (word, 1), (word, 1), *ahead, (word, 1), (word, 1), *ahead, DONE),
                           ())

    def test_targets_may_be_there_or_not(self):
        pair = ("record", 0, (num(1), TRUE))
        self.rows((PAIR, INT, BOOL), [put(1, pair), put(1, pair), ("open", 1, (2, 3)), put(1, pair),
                                      ("open", 1, (2, 3)),
                                      shown(copied(2))], 1)
        self.rows((VEC, INT), [put(1, ("vec", INT)), ("push", whole(1), num(1)), ("push", whole(1), num(2)),
                               ("take", 2, whole(1)), ("take", 2, whole(1)), shown(copied(2))], 1)


class CallTest(MeaningTest):

    def test_params_and_results(self):
        double = function(1, (INT, INT), put(0, ("op", "+", copied(1), copied(1))))
        minus = function(2, (INT, INT, INT), put(0, ("op", "-", copied(1), copied(2))))
        self.check(straight((INT, INT), put(1, ("use", num(4))), ("call", 1, 1, (copied(1),)), shown(copied(1)),
                            ("call", 1, 2, (copied(1), num(1))), shown(copied(1)), ("call", 0, 2, (num(9), copied(1))),
                            others=(double, minus)), (8, 7), result=2)

    def test_locals_of_calls_are_their_own(self):
        other = function(1, (INT, INT, INT), put(1, ("use", num(7))), put(2, ("use", num(8))), put(0, ("use", ZERO)))
        self.check(straight((INT, INT, INT), put(1, ("use", num(1))), put(2, ("use", num(2))),
                            ("call", 0, 1, (copied(1),)), shown(copied(1)), shown(copied(2)), others=(other,)), (1, 2))
        again = (1, (INT, INT, BOOL, INT), (
            ((put(2, ("op", "==", copied(1), ZERO)),), ("branch", copied(2), 1, 2)),
            ((put(0, ("use", num(10))),), RETURN),
            ((put(3, ("op", "-", copied(1), num(1))), ("call", 0, 1, (copied(3),)), shown(copied(1)),
              put(0, ("op", "+", copied(0), copied(1)))), RETURN),
        ), ())
        self.check(straight((INT,), ("call", 0, 1, (num(3),)), others=(again,)), (1, 2, 3), result=16)

    def test_moved_values_over_calls(self):
        pushed = function(2, (VEC, VEC, INT), ("push", whole(1), copied(2)), put(0, ("use", ("move", 1))))
        self.check(straight((INT, VEC), put(1, ("vec", INT)), ("call", 1, 1, (("move", 1), num(3))),
                            ("call", 1, 1, (("move", 1), num(4))), shown(("copy", item(1, num(0)))),
                            shown(("copy", item(1, num(1)))), DONE, others=(pushed,)), (3, 4))

    def test_a_result_goes_to_a_local_that_is_there_or_not(self):
        made = function(0, (BOX,), put(0, ("box", num(3), INT)))
        self.check(straight((INT, BOX), ("call", 1, 1, ()), ("call", 1, 1, ()), shown(("copy", (1, (DEREF,)))), DONE,
                            others=(made,)), (3,))

    def test_main_may_be_called(self):
        program = main_of((INT, INT, BOOL, INT), ((put(2, ("op", "<", copied(1), num(3))),),
                                                  ("branch", copied(2), 1, 2)),
                          ((put(3, ("op", "+", copied(1), num(1))), ("call", 0, 0, (copied(3),)), shown(copied(1))),
                           RETURN),
                          ((put(0, ("use", num(9))),), RETURN), params=1)
        self.check(program, (2, 1, 0), result=9, inputs=(0,))


class WayTest(MeaningTest):

    def test_branches_and_loops(self):
        program = main_of(
            (INT, INT, BOOL), ((), ("go", 1)),
            ((put(2, ("op", "<", copied(1), num(3))),), ("branch", copied(2), 2, 3)),
            ((shown(copied(1)), put(1, ("op", "+", copied(1), num(1)))), ("go", 1)),
            ((put(0, ("use", copied(1))),), RETURN), params=1,
        )
        for start, outs, result in ((0, (0, 1, 2), 3), (2, (2,), 3), (3, (), 3), (9, (), 9)):
            self.check(program, outs, result=result, inputs=(start,))
        for truth, outs in ((True, (1,)), (False, (2,))):
            self.check(main_of((INT, BOOL), ((DONE,), ("branch", copied(1), 1, 2)), ((shown(num(1)),), RETURN),
                               ((shown(num(2)),), RETURN), params=1), outs, inputs=(truth,))


if __name__ == "__main__":
    unittest.main()
