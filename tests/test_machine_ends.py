"""Points 7.8 and 7.9: how runs end, frames, steps, faults at each place, and the order of what statements do."""

import unittest

from helpers import BOOL, INT, LIST, PAIR
from machine_helpers import ALLOCATORS, same_as_meaning
from mir_helpers import DEREF, JOIN, RETURN, TRUE, ZERO, copied, deep_item, field, item, main_of, put, straight, whole
from oneowner.machine import run_machine
from oneowner.meaning import meaning
from oneowner.mir import is_mir

ONE, SEVEN = ("num", 1), ("num", 7)
BOX, VEC, REF = ("box", INT), ("vec", INT), ("ref", INT)
DONE = put(0, ("use", ZERO))
FIRST = ("first", 1)


def show(number):
    return ("show", ("num", number))


class EndTest(unittest.TestCase):

    def check(self, wanted, program, inputs=(), steps=1000):
        with self.subTest((program[1], inputs)):
            self.assertTrue(is_mir(program))
            for allocator in ALLOCATORS:
                self.assertEqual(repr(run_machine(program, inputs, allocator, (), steps)), repr(wanted))

    def test_done(self):
        self.check(((), "done", 0), straight((INT,), DONE))
        self.check(((3, True), "done", 7), straight((INT, INT), show(3), ("show", TRUE), put(0, ("use", SEVEN))))
        for value in (True, False):
            self.check(((value,), "done", value), straight((BOOL, BOOL), put(0, ("use", copied(1))),
                                                           ("show", copied(0)),
                                                           params=1), (value,))
        for value in (0, 1, 2, 2 ** 32 - 1):
            self.check(((value,), "done", value), straight((INT, INT), put(0, ("use", copied(1))), ("show", copied(1)),
                                                           params=1), (value,))
        self.check(((1, True, 0, False), "done", 0), straight(
            (INT, INT, BOOL, INT, BOOL), *[("show", copied(at)) for at in (1, 2, 3, 4)], DONE, params=4),
            (1, True, 0, False))

    def test_held(self):
        for statements in (
            (put(1, ("box", ONE, INT)),), (put(2, ("vec", INT)), ("push", whole(2), ONE)),
            (put(2, ("vec", INT)), ("push", whole(2), ONE), ("take", 4, whole(2))),
            (put(1, ("box", ONE, INT)), put(3, ("box", ("move", 1), BOX)), put(1, ("unbox", 3))),
        ):
            self.check(((5,), "held", None), straight((INT, BOX, VEC, ("box", BOX), INT), *statements, show(5), DONE))
        self.check(((5,), "done", 0), straight((INT, BOX, VEC), put(2, ("vec", INT)), show(5), DONE))
        self.check(((5,), "done", 0), straight((INT, BOX, VEC), put(1, ("box", ONE, INT)), ("drop", 1), show(5), DONE))

    def test_held_by_a_function_that_returned(self):
        for ending, word in (((), "held"), ((("end", 1),), "done")):
            other = (0, (INT, BOX), (((put(1, ("box", ONE, INT)), DONE) + ending, RETURN),), ())
            program = straight((INT,), ("call", 0, 1, ()), show(1), others=(other,))
            self.check(((1,), word, 0 if word == "done" else None), program)

    def test_the_word_of_what_is_wrong_comes_at_once(self):
        program = straight((INT, BOX, INT), put(1, ("box", ONE, INT)), show(1), put(0, ("use", copied(2))), show(2))
        self.check(((1,), "unowned", None), program)

    def test_the_main_function_need_not_be_the_first_one(self):
        book, (main,), _ = straight((INT, INT), put(0, ("use", copied(1))), params=1)
        other = (0, (BOOL,), (((put(0, ("use", TRUE)),), RETURN),), ())
        for functions, at in (((other, main), 1), ((main, other), 0), ((other, other, main, other), 2)):
            self.check(((), "done", 9), (book, functions, at), (9,))
        self.check(((), "done", True), (book, (main, other), 1))


class StepTest(unittest.TestCase):

    def takes(self, many, program, inputs=()):
        """A run takes just so many steps, as the meaning does."""
        best = meaning(program, inputs, 10000)
        for steps in range(many + 3):
            wanted = meaning(program, inputs, steps)
            self.assertEqual(wanted[1] == "steps", steps < many)
            self.assertEqual(run_machine(program, inputs, FIRST, (), steps), wanted)
        self.assertEqual(run_machine(program, inputs, FIRST, (), 10 ** 9), best)

    def test_statements_and_ways(self):
        self.takes(2, straight((INT,), DONE))
        self.takes(5, straight((INT,), show(1), DONE, show(2), DONE))
        self.takes(4, main_of((INT,), ((DONE,), ("go", 1)), ((show(1),), RETURN)))
        self.takes(3, main_of((INT,), ((DONE,), ("branch", TRUE, 1, 2)), ((), RETURN), ((), ("go", 0))))

    def test_calls_and_returns(self):
        other = (0, (INT,), (((DONE,), RETURN),), ())
        self.takes(4, straight((INT,), ("call", 0, 1, ()), others=(other,)))
        self.takes(7, straight((INT,), ("call", 0, 1, ()), ("call", 0, 1, ()), others=(other,)))

    def test_pars_and_joins(self):
        self.takes(5, main_of((INT,), ((DONE,), ("par", 1, 2, 3)), ((), JOIN), ((), JOIN), ((), RETURN)))
        self.takes(8, main_of((INT,), ((DONE,), ("par", 1, 2, 3)), ((show(1),), JOIN), ((show(2), show(3)), JOIN),
                              ((), RETURN)))

    def test_faults(self):
        push = put(1, ("vec", INT))
        self.takes(2, straight((INT, VEC), push, ("take", 0, whole(1)), DONE))
        self.takes(2, straight((INT, VEC), push, ("show", ("copy", item(1, ZERO))), DONE))

    def test_no_steps(self):
        for steps, wanted in ((0, ((), "steps", None)), (1, ((), "steps", None)), (2, ((), "done", 0))):
            self.assertEqual(run_machine(straight((INT,), DONE), (), FIRST, (), steps), wanted)
        self.assertEqual(run_machine(straight((INT, INT), params=1), (5,), FIRST, (), 0), ((), "steps", None))

    def test_a_run_without_an_end(self):
        program = main_of((INT,), ((show(1),), ("go", 0)))
        for steps in (0, 1, 2, 7, 100):
            self.assertEqual(run_machine(program, (), FIRST, (), steps), ((1,) * ((steps + 1) // 2), "steps", None))

    def test_steps_with_a_schedule(self):
        program = main_of((INT,), ((DONE,), ("par", 1, 2, 3)), ((show(1),), JOIN), ((show(2),), JOIN), ((), RETURN))
        for schedule in ((), (0, 0, 1, 1, 1, 0), (7,) * 20):
            self.assertEqual(run_machine(program, (), FIRST, schedule, 6)[1], "steps")
            self.assertEqual(run_machine(program, (), FIRST, schedule, 7)[1:], ("done", 0))


class FrameTest(unittest.TestCase):

    def deep(self, many):
        """A program whose main calls a function that calls itself until so many frames stand."""
        again = main_of((INT, INT, BOOL), ((put(2, ("op", "==", copied(1), ZERO)),), ("branch", copied(2), 1, 2)),
                        ((put(0, ("use", SEVEN)),), RETURN),
                        ((put(1, ("op", "-", copied(1), ONE)), ("call", 0, 1, (copied(1),))), RETURN), params=1)[1][0]
        return straight((INT,), show(1), ("call", 0, 1, (("num", many - 2),)), show(2), others=(again,))

    def test_in_main(self):
        self.assertEqual(run_machine(self.deep(100), (), FIRST, (), 9999), ((1, 2), "done", 7))
        self.assertEqual(run_machine(self.deep(101), (), FIRST, (), 9999), ((1,), "steps", None))
        self.assertEqual(run_machine(self.deep(2), (), FIRST, (), 9999), ((1, 2), "done", 7))
        for many in (2, 50, 99, 100, 101, 102):
            same_as_meaning(self, self.deep(many), allocators=(FIRST,))

    def test_frames_that_are_over_do_not_count(self):
        _, (_, again), _ = self.deep(3)
        calls = tuple(("call", 0, 1, (("num", 98),)) for _ in range(3))
        self.assertEqual(run_machine(straight((INT,), *calls, others=(again,)), (), FIRST, (), 9999), ((), "done", 7))
        self.assertEqual(run_machine(straight((INT,), *calls[:1], ("call", 0, 1, (("num", 99),)), show(1),
                                              others=(again,)), (),
                                     FIRST, (), 9999), ((), "steps", None))

    def side(self, number, way):
        """A program with a call that makes so many more frames, in the first side, the second one or behind both."""
        _, (_, again), _ = self.deep(3)
        blocks = [((), ("par", 1, 2, 3)), ((), JOIN), ((), JOIN), ((show(1),) if way != 3 else (), RETURN)]
        blocks[way] = (blocks[way][0] + (("call", 0, 1, (("num", number),)),), blocks[way][1])
        if way != 3:
            blocks[3] = ((DONE,) + blocks[3][0], RETURN)
        return main_of((INT,), *blocks, others=(again,))

    def test_in_sides(self):
        for way in (1, 2, 3):
            for schedule in ((), (1,) * 1000):
                word = run_machine(self.side(98, way), (), FIRST, schedule, 9999)[1]
                self.assertEqual(word, "done")
                self.assertEqual(run_machine(self.side(99, way), (), FIRST, schedule, 9999), ((), "steps", None))

    def test_frames_of_those_that_wait(self):
        # A function whose sides call it again: its frame counts once for each of them.
        again = main_of(
            (INT, INT, BOOL, INT, INT), ((put(2, ("op", "==", copied(1), ZERO)), DONE), ("branch", copied(2), 1, 2)),
            ((), RETURN), ((put(1, ("op", "-", copied(1), ONE)),), ("par", 3, 4, 5)),
            ((("call", 3, 1, (copied(1),)),), JOIN), ((put(4, ("use", ZERO)),), JOIN), ((), RETURN), params=1)[1][0]
        for schedule in ((), (1,) * 5000, (0, 1, 1) * 2000):
            program = straight((INT,), ("call", 0, 1, (("num", 98),)), show(1), others=(again,))
            self.assertEqual(run_machine(program, (), FIRST, schedule, 9999), ((1,), "done", 0))
            program = straight((INT,), ("call", 0, 1, (("num", 99),)), show(1), others=(again,))
            self.assertEqual(run_machine(program, (), FIRST, schedule, 9999), ((), "steps", None))
        same_as_meaning(self, program, allocators=(FIRST,))

    def test_the_operands_of_a_call_come_ahead_of_its_frame(self):
        _, (_, again), _ = self.deep(3)
        book, functions, main = self.deep(100)
        params, kinds, blocks, lenders = functions[1]
        # The last call has an operand at a place that is not there: that is told, not the frame.
        vec = kinds + (VEC,)
        more = ((put(3, ("vec", INT)),) + blocks[1][0] + (("call", 0, 1, (("copy", item(3, ZERO)),)),), RETURN)
        program = (book, (functions[0], (params, vec, (blocks[0], more, blocks[2]), lenders)), main)
        self.assertTrue(is_mir(program))
        self.assertEqual(run_machine(program, (), FIRST, (), 9999), ((1,), "bound", None))
        self.assertEqual(meaning(program, (), 9999), ((1,), "bound", None))


class FaultTest(unittest.TestCase):

    kinds = (INT, INT, BOOL, PAIR, LIST, VEC, ("vec", PAIR), ("box", LIST), REF, ("mut", LIST), ("vec", VEC), PAIR, VEC)
    ahead = (
        put(1, ("use", ONE)), put(3, ("record", 0, (ZERO, TRUE))), put(4, ("variant", 0, 0, ())), put(5, ("vec", INT)),
        ("push", whole(5), SEVEN), put(6, ("vec", PAIR)), put(10, ("vec", VEC)), put(12, ("vec", INT)),
    )

    def ends(self, word, *found):
        for statement in found:
            program = straight(self.kinds, *self.ahead, show(5), statement, show(6), DONE)
            with self.subTest(statement):
                self.assertEqual(meaning(program, (), 1000), ((5,), word, None))
                for allocator in ALLOCATORS:
                    self.assertEqual(run_machine(program, (), allocator, (), 1000), ((5,), word, None))

    def test_bound(self):
        for index in (ONE, ("num", 2), ("num", 2 ** 32 - 1), copied(1), ("copy", item(5, ZERO))):
            place = item(5, index)
            self.ends("bound", ("show", ("copy", place)), put(1, ("use", ("copy", place))),
                      ("set", place, ("use", ZERO)),
                      put(8, ("lend", "ref", place)), put(1, ("op", "+", ZERO, ("copy", place))),
                      ("push", whole(5), ("copy", place)))
        self.ends("bound", ("set", item(6, ZERO), ("use", ("move", 3))), ("push", item(10, ZERO), ZERO),
                  ("take", 1, item(10, ZERO)),
                  put(1, ("len", item(10, ZERO))), ("show", ("copy", (6, (("index", ZERO), ("field", 0))))),
                  ("set", item(5, ("copy", item(5, ONE))), ("use", ZERO)))

    def test_empty(self):
        self.ends("empty", ("take", 1, whole(12)), ("take", 3, whole(6)), ("take", 5, whole(10)),
                  ("take", 12, whole(10)))

    def test_tag(self):
        part = (4, (("part", 1, 0),))
        self.ends("tag", ("show", ("copy", part)), ("set", part, ("use", ZERO)), put(8, ("lend", "ref", part)),
                  ("unpack", 4, 2, (2, 3)), ("unpack", 4, 1, (1, 7)), put(9,
                      ("lend", "mut", (4, (("part", 1, 1), DEREF)))),
                  ("push", whole(5), ("copy", part)))

    def test_ways(self):
        for way, word in (
            (("branch", ("copy", (6, (("index", ZERO), ("field", 1)))), 1, 1), "bound"),
            (("branch", ("copy", (4, (("part", 2, 0),))), 1, 1), "tag"),
            (("switch", (4, (("part", 1, 1), DEREF)), (1, 1, 1)), "tag"),
        ):
            program = main_of(self.kinds, (self.ahead + (show(5),), way), ((show(6), DONE), RETURN))
            self.assertEqual(run_machine(program, (), FIRST, (), 100), ((5,), word, None))

    def test_a_fault_of_a_call_ends_the_run(self):
        other = (0, (INT, VEC), (((put(1, ("vec", INT)), show(1), ("take", 0, whole(1)), show(2)), RETURN),), ())
        program = straight((INT,), ("call", 0, 1, ()), show(3), others=(other,))
        self.assertEqual(run_machine(program, (), FIRST, (), 100), ((1,), "empty", None))

    def test_no_unpack_of_another_tag_takes_apart(self):
        # The fault comes ahead of the move; in a side of a par another thread sees nothing of it.
        program = straight(self.kinds, *self.ahead, ("unpack", 4, 1, (1, 7)), DONE)
        self.assertEqual(run_machine(program, (), FIRST, (), 100), ((), "tag", None))


class OrderTest(unittest.TestCase):
    """What is done first is told by which fault, or what is wrong, ends the run."""

    kinds = (INT, INT, BOOL, PAIR, LIST, VEC, ("vec", PAIR), PAIR, BOX, ("vec", VEC))
    ahead = (put(5, ("vec", INT)), put(4, ("variant", 0, 0, ())), put(6, ("vec", PAIR)), put(9, ("vec", VEC)))
    bound, tag = ("copy", item(5, ZERO)), ("copy", (4, (("part", 1, 0),)))
    no_room, empty = copied(1), ("copy", field(3, 0))

    def check(self, word, statement, more=()):
        program = straight(self.kinds, *self.ahead, *more, statement, DONE)
        with self.subTest(statement):
            self.assertTrue(is_mir(program))
            self.assertEqual(run_machine(program, (), FIRST, (), 100), ((), word, None))

    def test_operands_from_left_to_right(self):
        for first, second, word in (
            (self.bound, self.tag, "bound"), (self.tag, self.bound, "tag"), (self.no_room, self.bound, "unowned"),
            (self.bound, self.no_room, "bound"), (ZERO, self.tag, "tag"),
        ):
            self.check(word, put(0, ("op", "+", first, second)))
            self.check(word, put(2, ("op", "<", first, second)))

    def test_the_right_side_of_a_set_ahead_of_its_place(self):
        self.check("tag", ("set", item(5, ZERO), ("use", self.tag)))
        self.check("bound", ("set", item(5, ZERO), ("use", ZERO)))
        self.check("tag", ("set", item(5, self.bound), ("use", self.tag)))
        self.check("bound", ("set", (4, (("part", 1, 0),)), ("use", self.bound)))
        self.check("unowned", ("set", item(5, ZERO), ("use", self.no_room)))

    def test_the_operand_of_a_push_ahead_of_its_place(self):
        self.check("tag", ("push", item(9, ZERO), self.tag))
        self.check("bound", ("push", item(9, ZERO), ZERO))
        self.check("unowned", ("push", item(9, ZERO), self.no_room))

    def test_a_place_from_the_left(self):
        rows = (put(6, ("vec", PAIR)),)
        self.check("bound", ("show", ("copy", (9, (("index", ZERO), ("index", self.tag))))), rows)
        self.check("tag", ("show", ("copy", (9, (("index", self.tag), ("index", self.bound))))), rows)
        self.check("unowned", ("show", ("copy", item(5, self.no_room))))
        # The index is evaluated ahead of the bound, the local is found ahead of its index.
        self.check("tag", ("show", ("copy", item(5, self.tag))))
        kinds = (INT, VEC, LIST)
        program = straight(kinds, put(2, ("variant", 0, 0, ())), ("show",
                                                                  ("copy", item(1, ("copy", (2, (("part", 1, 0),)))))))
        self.assertEqual(run_machine(program, (), FIRST, (), 100), ((), "unowned", None))

    def test_an_index_ahead_of_reading_the_vec(self):
        # The vec is not set, and its index is a fault.
        self.check("tag", ("show", ("copy", item(5, self.tag))), (("drop", 5),))
        self.check("unset", ("show", ("copy", item(5, ZERO))), (("drop", 5),))

    def test_a_move_counts_for_what_is_behind_it(self):
        pair = put(3, ("record", 0, (ZERO, TRUE)))
        self.check("unset", ("set", (6, (("index", ("copy", field(3, 0))),)), ("use", ("move", 3))), (pair,))
        two = (2, (INT, PAIR, INT), (((DONE,), RETURN),), ())
        program = straight((INT, PAIR), put(1, ("record", 0, (ZERO, TRUE))),
                           ("call", 0, 1, (("move", 1), ("copy", field(1, 0)))),
                           others=(two,))
        self.assertEqual(run_machine(program, (), FIRST, (), 100), ((), "unset", None))

    def test_a_value_is_made_ahead_of_dropping_what_was_there(self):
        # The old box is still there when the new value is read.
        kinds = (INT, BOX, VEC)
        program = straight(kinds, put(1, ("box", SEVEN, INT)), put(1, ("box", ("copy", (1, (DEREF,))), INT)),
                           ("show", ("copy", (1, (DEREF,)))), put(2, ("vec", INT)), ("push", whole(2), ONE),
                           ("set", (1, (DEREF,)), ("use", ("copy", item(2, ZERO)))), ("show", ("copy", (1, (DEREF,)))),
                           ("end", 1), ("end", 2), DONE)
        same_as_meaning(self, program)

    def test_a_local_set_to_itself(self):
        program = straight((INT, BOX, VEC, ("mut", INT), INT), put(1, ("box", SEVEN, INT)),
                           put(1, ("use", ("move", 1))),
                           ("show", ("copy", (1, (DEREF,)))), put(4, ("use", ONE)), put(3, ("lend", "mut", whole(4))),
                           put(3, ("use", ("move", 3))), ("set", (3, (DEREF,)), ("use", SEVEN)), ("show", copied(4)),
                           ("end", 1),
                           DONE)
        self.assertEqual(same_as_meaning(self, program), ((7, 7), "done", 0))

    def test_a_vec_that_is_pushed_one_of_its_items(self):
        push = ("push", whole(1), ("copy", item(1, ZERO)))
        program = straight((INT, VEC), put(1, ("vec", INT)), ("push", whole(1), SEVEN), push, push, push, push,
                           *[("show", ("copy", item(1, ("num", at)))) for at in range(5)], ("end", 1), DONE)
        self.assertEqual(same_as_meaning(self, program), ((7,) * 5, "done", 0))

    def test_the_item_of_a_take_ahead_of_its_target(self):
        book = (((("vec", ("record", 0)),),), ())
        kind = ("record", 0)
        kinds = (INT, kind, ("vec", kind), kind)
        fill = (put(2, ("vec", kind)), put(1, ("record", 0, (("move", 2),))))
        program = straight(kinds, *fill, put(2, ("vec", kind)), ("push", whole(2), ("move", 1)),
                           put(1, ("record", 0, (("move", 2),))),
                           ("take", 1, field(1, 0)), put(0, ("len", field(1, 0))), ("show", copied(0)), ("end", 1),
                           DONE, book=book)
        self.assertEqual(same_as_meaning(self, program), ((0,), "done", 0))

    def test_places_within_the_indexes_of_places(self):
        program = straight((INT, VEC), put(1, ("vec", INT)), ("push", whole(1), ZERO),
                           ("show", ("copy", deep_item(1, ZERO, 3000))),
                           ("end", 1), DONE)
        self.assertEqual(run_machine(program, (), FIRST, (), 100), ((0,), "done", 0))

    def test_a_result_to_a_local_that_is_there(self):
        other = (1, (BOX, BOX), (((put(0, ("use", ("move", 1))),), RETURN),), ())
        program = straight((INT, BOX, BOX), put(1, ("box", ONE, INT)), put(2, ("box", SEVEN, INT)),
                           ("call", 1, 1, (("move", 2),)),
                           ("show", ("copy", (1, (DEREF,)))), ("call", 1, 1, (("move", 1),)),
                           ("show", ("copy", (1, (DEREF,)))),
                           ("end", 1), DONE, others=(other,))
        self.assertEqual(same_as_meaning(self, program), ((7, 7), "done", 0))

    def test_what_the_target_of_a_call_had_is_dropped_at_the_return(self):
        # While the call runs, the old box is there: what it held may be read by a reference.
        other = (1, (BOX, REF), (((("show", ("copy", (1, (DEREF,)))), put(0, ("box", ONE, INT))), RETURN),), ())
        program = straight((INT, BOX, REF), put(1, ("box", SEVEN, INT)), put(2, ("lend", "ref", (1, (DEREF,)))),
                           ("call", 1, 1, (copied(2),)), ("show", ("copy", (1, (DEREF,)))), ("end", 1), DONE,
                           others=(other,))
        for allocator in ALLOCATORS:
            self.assertEqual(run_machine(program, (), allocator, (), 100), ((7, 1), "done", 0))
        program = straight((INT, BOX, REF), put(1, ("box", SEVEN, INT)), put(2, ("lend", "ref", (1, (DEREF,)))),
                           ("call", 1, 1, (copied(2),)), ("show", ("copy", (2, (DEREF,)))), ("end", 1), DONE,
                           others=(other,))
        self.assertEqual(run_machine(program, (), FIRST, (), 100), ((7,), "unowned", None))


if __name__ == "__main__":
    unittest.main()
