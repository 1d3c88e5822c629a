"""Part 8: threads, schedules, races, and faults of sides."""

import unittest

from helpers import BOOL, INT, LIST, PAIR
from machine_helpers import ALLOCATORS, SCHEDULES, same_as_meaning
from mir_helpers import DEREF, JOIN, RETURN, TRUE, ZERO, copied, field, item, main_of, put, whole
from oneowner.judge import taken
from oneowner.machine import run_machine
from oneowner.meaning import meaning
from oneowner.mir import is_mir

ONE, SEVEN = ("num", 1), ("num", 7)
BOX, VEC, REF, MUT = ("box", INT), ("vec", INT), ("ref", INT), ("mut", INT)
DONE = put(0, ("use", ZERO))
FIRST = ("first", 1)
END = ((DONE,), RETURN)
# The second side first, as long as there is one.
SECOND = (1,) * 1000


def show(*numbers):
    return tuple(("show", ("num", number)) for number in numbers)


def shown(program, schedule, steps=1000):
    outs, word, _ = run_machine(program, (), FIRST, schedule, steps)
    return outs, word


class OrderTest(unittest.TestCase):

    def check(self, program, *rows):
        self.assertTrue(is_mir(program))
        for schedule, outs in rows:
            with self.subTest(schedule):
                self.assertEqual(shown(program, schedule), (outs, "done"))

    def test_two_sides(self):
        program = main_of((INT,), (show(0), ("par", 1, 2, 3)), (show(1, 2), JOIN), (show(3, 4), JOIN),
                          (show(5) + (DONE,), RETURN))
        # The first two steps are main's, whatever their numbers are.
        self.check(
            program,
            ((), (0, 1, 2, 3, 4, 5)), ((0,) * 20, (0, 1, 2, 3, 4, 5)), ((1,) * 20, (0, 3, 4, 1, 2, 5)),
            ((0, 0, 1), (0, 3, 1, 2, 4, 5)), ((9, 9, 0, 1, 0, 1), (0, 1, 3, 2, 4, 5)),
            ((0, 0, 1, 0, 1, 0), (0, 3, 1, 4, 2, 5)),
            ((0, 0, 1, 1, 0, 0), (0, 3, 4, 1, 2, 5)), ((0, 0, 2, 3, 4, 5), (0, 1, 3, 2, 4, 5)),
            ((0, 0, 10 ** 30, 10 ** 30 + 1), (0, 1, 3, 2, 4, 5)), ((5,), (0, 1, 2, 3, 4, 5)),
            ((0, 0, 0, 0, 0, 1), (0, 1, 2, 3, 4, 5)),
        )

    def test_a_thread_that_is_left_over(self):
        program = main_of((INT,), ((), ("par", 1, 2, 3)), (show(1), JOIN), (show(2, 3, 4), JOIN),
                          (show(5) + (DONE,), RETURN))
        # When one side has ended there is one thread to pick from.
        self.check(program, ((0, 0, 0, 1, 1, 1), (1, 2, 3, 4, 5)), ((0, 1, 1, 1, 1, 1, 1, 1), (2, 3, 4, 1, 5)),
                   ((0, 1, 0, 0, 1, 0), (2, 1, 3, 4, 5)))

    def test_pars_within_pars(self):
        program = main_of(
            (INT,), ((), ("par", 1, 2, 3)), (show(1), ("par", 4, 5, 6)), (show(2), ("par", 7, 8, 9)),
            (show(3) + (DONE,), RETURN),
            (show(4), JOIN), (show(5), JOIN), (show(6), JOIN), (show(7), JOIN), (show(8), JOIN), (show(9), JOIN),
        )
        self.check(
            program,
            ((), (1, 4, 5, 6, 2, 7, 8, 9, 3)),
            # With the number 1 all the time it is the second one of several threads.
            ((1,) * 100, (2, 7, 8, 9, 1, 5, 4, 6, 3)),
            # Both begin their pars; then there are four threads, from the first side of the first one on.
            ((0, 0, 0, 2, 2, 3, 2, 1, 0), (1, 2, 8, 7, 5, 4, 6, 9, 3)),
            ((0, 0, 0, 2, 2, 7, 2 + 4, 1, 0), (1, 2, 8, 7, 5, 4, 6, 9, 3)),
        )

    def test_the_order_of_four_threads(self):
        program = main_of(
            (INT,), ((), ("par", 1, 2, 3)), ((), ("par", 4, 5, 6)), ((), ("par", 7, 8, 9)), END,
            (show(4), JOIN), (show(5), JOIN), ((), JOIN), (show(7), JOIN), (show(8), JOIN), ((), JOIN),
        )
        # Main's par, the first side's one, the second side's one: whoever is third then.
        for number, at in ((4, 0), (5, 1), (7, 2), (8, 3)):
            outs, word = shown(program, (0, 0, 2, at))
            self.assertEqual((outs[0], word), (number, "done"))
            outs, word = shown(program, (0, 0, 2, at + 4))
            self.assertEqual((outs[0], word), (number, "done"))
        # With the second side's par first there are three threads, of which the first side is the first one.
        for schedule, number in (((0, 1, 0, 0), 4), ((0, 1, 1), 7), ((0, 1, 2), 8)):
            self.assertEqual(shown(program, schedule)[0][0], number)

    def test_pars_in_a_loop(self):
        program = main_of(
            (INT, INT, BOOL, INT), ((put(1, ("use", ZERO)),), ("go", 1)),
            ((put(2, ("op", "<", copied(1), ("num", 3))),), ("branch", copied(2), 2, 5)),
            ((), ("par", 3, 4, 6)), ((("show", copied(1)),), JOIN), (show(8, 9), JOIN), END,
            ((put(1, ("op", "+", copied(1), ONE)),), ("go", 1)),
        )
        self.check(program, ((), (0, 8, 9, 1, 8, 9, 2, 8, 9)), (SECOND, (8, 9, 0, 8, 9, 1, 8, 9, 2)))

    def test_functions_that_sides_call(self):
        other = main_of((INT, INT), (show(1), ("par", 1, 2, 3)), (show(2), JOIN), (show(3), JOIN),
                        (show(4) + (DONE,), RETURN))[1][0]
        program = main_of((INT, INT, INT), ((), ("par", 1, 2, 3)), ((("call", 1, 1, ()),), JOIN),
                          ((("call", 2, 1, ()),) + show(5), JOIN),
                          (show(6) + (DONE,), RETURN), others=(other,))
        self.check(program, ((), (1, 2, 3, 4, 1, 2, 3, 4, 5, 6)),
                   # The second side's call, its par; then the threads are the first side, 2 and 3.
                   ((0, 1, 1, 1, 2, 1), (1, 3, 2, 1, 2, 3, 4, 4, 5, 6)))

    def test_locals_are_those_of_the_function(self):
        program = main_of(
            (INT, INT, INT, BOX), ((put(1, ("use", ONE)), put(3, ("box", SEVEN, INT))), ("par", 1, 2, 3)),
            ((put(1, ("op", "+", copied(1), ONE)),), JOIN), ((put(2, ("unbox", 3)),), JOIN),
            ((("show", copied(1)), ("show", copied(2)), DONE), RETURN),
        )
        self.assertEqual(same_as_meaning(self, program), ((2, 7), "done", 0))


class RaceTest(unittest.TestCase):

    kinds = (INT, INT, PAIR, VEC, BOX, LIST, INT, BOOL, PAIR, BOX, REF, MUT, INT)
    ahead = (
        put(1, ("use", ONE)), put(2, ("record", 0, (ONE, TRUE))), put(3, ("vec", INT)), ("push", whole(3), ONE),
        ("push", whole(3), ONE), put(4, ("box", ONE, INT)), put(5, ("variant", 0, 2, (TRUE, ("move", 8)))),
        put(6, ("use", ONE)), put(9, ("box", ONE, INT)),
    )
    start = (put(8, ("record", 0, (ONE, TRUE))),) + ahead
    ending = tuple(("end", local) for local in (2, 3, 4, 5, 8, 9)) + (DONE,)

    def program(self, first, second, ahead=()):
        return main_of(self.kinds, (self.start + ahead, ("par", 1, 2, 3)), (first, JOIN), (second, JOIN),
                       (self.ending, RETURN))

    def check(self, wanted, first, second, ahead=()):
        for one, other in ((first, second), (second, first)):
            program = self.program(one, other, ahead)
            with self.subTest((one, other)):
                self.assertTrue(is_mir(program))
                for schedule in ((), SECOND, (0,) * len(self.start) + (0, 0, 1) * 20):
                    outs, word, result = run_machine(program, (), FIRST, schedule, 1000)
                    self.assertEqual((outs, word, result), ((), "race", None) if wanted else ((), "done", 0))

    def test_reads_and_reads(self):
        for operand in (copied(1), ("copy", field(2, 0)), ("copy", item(3, ZERO)), ("copy", (4, (DEREF,))),
                        ("copy", (5, (("part", 2, 1), ("field", 0))))):
            self.check(False, (put(0, ("use", operand)),), (put(12, ("use", operand)),))
        self.check(False, (put(0, ("len", whole(3))),), (put(12, ("use", ("copy", item(3, ONE)))),))

    def test_a_read_and_a_write(self):
        read_1 = put(0, ("use", copied(1)))
        for first, second, wanted in (
            (read_1, put(1, ("use", SEVEN)), True), (read_1, put(6, ("use", SEVEN)), False),
            (put(0, ("use", ("copy", field(2, 0)))), ("set", field(2, 0), ("use", SEVEN)), True),
            (put(0, ("use", ("copy", field(2, 0)))), ("set", field(2, 1), ("use", TRUE)), False),
            (put(0, ("use", ("copy", item(3, ZERO)))), ("set", item(3, ZERO), ("use", SEVEN)), True),
            # What the judge cannot tell apart is no race if the cells are others.
            (put(0, ("use", ("copy", item(3, ZERO)))), ("set", item(3, ONE), ("use", SEVEN)), False),
            (put(0, ("use", ("copy", (4, (DEREF,))))), ("set", (4, (DEREF,)), ("use", SEVEN)), True),
            (put(0, ("use", ("copy", (4, (DEREF,))))), ("set", (9, (DEREF,)), ("use", SEVEN)), False),
            (put(0, ("len", whole(3))), ("push", whole(3), SEVEN), True),
            (put(7, ("use", ("copy", (5, (("part", 2, 0),))))), ("set", (5, (("part", 2, 0),)), ("use", TRUE)), True),
            (put(0, ("use", ("copy", (5, (("part", 2, 1), ("field", 0)))))),
             ("set", (5, (("part", 2, 0),)), ("use", TRUE)), False),
        ):
            self.check(wanted, (first,), (second,))

    def test_two_writes(self):
        for first, second, wanted in (
            (put(1, ("use", SEVEN)), put(1, ("use", SEVEN)), True), (put(1, ("use", SEVEN)), put(6, ("use", SEVEN)),
                                                                     False),
            (("set", field(2, 0), ("use", SEVEN)), ("set", field(2, 1), ("use", TRUE)), False),
            (("set", field(2, 0), ("use", SEVEN)), put(2, ("record", 0, (ONE, TRUE))), True),
            (("push", whole(3), SEVEN), ("push", whole(3), SEVEN), True),
            (("set", item(3, ZERO), ("use", SEVEN)), ("set", item(3, ONE), ("use", SEVEN)), False),
            (("set", item(3, ZERO), ("use", SEVEN)), ("set", item(3, ZERO), ("use", SEVEN)), True),
        ):
            self.check(wanted, (first,), (second,))

    def race_or_gone(self, reading, writing, words):
        """A read first is a race with what comes then; a read behind it is told as what it finds."""
        first, second = (reading,), (writing,)
        self.assertEqual(shown(self.program(first, second), ()), ((), "race"))
        self.assertEqual(shown(self.program(second, first), SECOND), ((), "race"))
        self.assertEqual(shown(self.program(second, first), ()), ((), words))
        self.assertEqual(shown(self.program(first, second), SECOND), ((), words))

    def test_a_read_and_a_drop_an_end_or_a_move(self):
        read_1, read_2 = put(0, ("use", copied(1))), put(0, ("use", ("copy", field(2, 0))))
        read_4, read_3 = put(0, ("use", ("copy", (4, (DEREF,))))), put(0, ("len", whole(3)))
        for reading, writing, word in (
            (read_1, ("drop", 1), "unset"), (read_1, ("end", 1), "unowned"), (read_2, ("drop", 2), "unset"),
            (read_2, ("end", 2), "unowned"), (read_2, put(8, ("use", ("move", 2))), "unset"),
            (read_2, ("open", 2, (12, 7)), "unset"), (read_4, ("drop", 4), "unset"), (read_4, ("end", 4), "unowned"),
            (read_4, put(12, ("unbox", 4)), "unset"), (read_3, ("end", 3), "unowned"), (read_3, ("drop", 3), "unset"),
            (put(7, ("use", ("copy", (5, (("part", 2, 0),))))), ("unpack", 5, 2, (7, 8)), "unset"),
        ):
            with self.subTest((reading, writing)):
                self.race_or_gone(reading, writing, word)

    def test_a_read_through_a_reference_and_the_end_of_a_holding(self):
        ahead = (put(10, ("lend", "ref", (4, (DEREF,)))),)
        reading = put(0, ("use", ("copy", (10, (DEREF,)))))
        for writing in (("drop", 4), ("end", 4), put(12, ("unbox", 4)), put(4, ("box", ONE, INT))):
            self.assertEqual(shown(self.program((reading,), (writing,), ahead), ()), ((), "race"))
            self.assertEqual(shown(self.program((writing,), (reading,), ahead), ()), ((), "unowned"))
        ahead = (put(10, ("lend", "ref", item(3, ZERO))),)
        for writing in (("push", whole(3), ONE), ("end", 3), put(3, ("vec", INT))):
            self.assertEqual(shown(self.program((reading,), (writing,), ahead), ()), ((), "race"))
            self.assertEqual(shown(self.program((writing,), (reading,), ahead), ()), ((), "unowned"))
        # A push that does not grow touches other cells than the item, but for a reference none of the vec.
        ahead = (("push", whole(3), ONE), put(10, ("lend", "ref", item(3, ZERO))))
        self.assertEqual(shown(self.program((reading,), (("push", whole(3), ONE),), ahead), ()), ((), "done"))

    def test_both_end_the_same(self):
        for first, second, word in (
            (("drop", 1), ("drop", 1), "done"), (("end", 1), ("end", 1), "done"), (("drop", 1), ("end", 1), "race"),
            (("end", 1), put(1, ("use", ONE)), "done"), (("drop", 4), ("drop", 4), "done"),
            (("drop", 4), ("end", 4), "race"),
        ):
            # Whether a local is there, and has a room, the machine keeps beside the cells.
            self.assertEqual(shown(self.program((first,), (second,)), ()), ((), word), (first, second))

    def test_a_room_that_begins_in_a_side(self):
        self.assertEqual(shown(self.program((put(12, ("use", ONE)),), (put(0, ("use", copied(12))),)), ()),
                         ((), "race"))
        self.assertEqual(shown(self.program((put(12, ("use", ONE)),), (put(0, ("use", copied(12))),)), SECOND),
                         ((), "unowned"))
        self.assertEqual(shown(self.program((put(12, ("use", ONE)),), (put(12, ("use", ONE)),)), ()), ((), "race"))
        self.assertEqual(shown(self.program((put(12, ("use", ONE)),), (("end", 12),)), ()), ((), "race"))
        # The end of a holding is a write of cells that were never used, too.
        ahead = (put(2, ("record", 0, (ONE, TRUE))),)
        blocks = (("end", 2),)
        self.assertEqual(shown(self.program(ahead, blocks), ()), ((), "race"))

    def test_what_was_done_ahead_of_a_holding_does_not_count(self):
        # The first side's room is over when the second one begins its own.
        self.assertEqual(shown(self.program((put(12, ("use", ONE)), ("end", 12)), (put(12, ("use", ONE)),)), ()),
                         ((), "done"))
        # A block is given back by one side and given out to the other one.
        give = (("drop", 4),)
        get = (put(9, ("box", SEVEN, INT)),)
        for allocator in ALLOCATORS:
            for schedule in SCHEDULES:
                self.assertEqual(run_machine(self.program(give, get), (), allocator, schedule, 1000), ((), "done", 0))
                self.assertEqual(run_machine(self.program(get, give), (), allocator, schedule, 1000), ((), "done", 0))

    def test_one_behind_the_other_in_the_same_place(self):
        both = (put(1, ("use", SEVEN)), put(0, ("use", copied(1))), put(1, ("use", ONE)), ("drop", 1),
                put(1, ("use", ONE)))
        self.check(False, both, ())

    def test_ahead_of_the_par_and_behind_it(self):
        program = main_of(
            (INT, INT), ((put(1, ("use", ONE)),), ("par", 1, 2, 3)), ((put(0, ("use", copied(1))),), JOIN), ((), JOIN),
            ((put(1, ("use", SEVEN)), put(0, ("use", copied(1)))), RETURN),
        )
        self.assertEqual(same_as_meaning(self, program), ((), "done", 7))

    def test_two_pars_one_behind_the_other(self):
        change = put(1, ("op", "+", copied(1), ONE))
        program = main_of(
            (INT, INT), ((put(1, ("use", ONE)),), ("par", 1, 2, 3)), ((change,), JOIN), ((), JOIN),
            ((), ("par", 4, 5, 6)),
            ((), JOIN), ((change,), JOIN), ((put(0, ("use", copied(1))),), RETURN),
        )
        self.assertEqual(same_as_meaning(self, program), ((), "done", 3))
        # Also within the sides of a par around both.
        program = main_of(
            (INT, INT), ((put(1, ("use", ONE)),), ("par", 1, 2, 3)), ((), ("par", 4, 5, 6)), ((), JOIN),
            ((put(0, ("use", copied(1))),), RETURN), ((change,), JOIN), ((), JOIN), ((), ("par", 7, 8, 9)), ((), JOIN),
            ((change,), JOIN), ((change,), JOIN),
        )
        self.assertEqual(same_as_meaning(self, program), ((), "done", 4))

    def test_sides_at_other_depths(self):
        change, read = put(1, ("use", SEVEN)), put(0, ("use", copied(1)))
        base = [
            ((put(1, ("use", ONE)),), ("par", 1, 5, 9)), ((), ("par", 2, 3, 4)), ((), JOIN), ((), JOIN), ((), JOIN),
            ((), ("par", 6, 7, 8)), ((), JOIN), ((), JOIN), ((), JOIN), ((DONE,), RETURN),
        ]
        for one in range(10):
            for other in range(10):
                if one == other:
                    continue
                blocks = list(base)
                blocks[one] = (blocks[one][0] + (change,), blocks[one][1])
                blocks[other] = (blocks[other][0] + (read,), blocks[other][1])
                outer = (1 <= one <= 4 and 5 <= other <= 8) or (1 <= other <= 4 and 5 <= one <= 8)
                inner = {one, other} in ({2, 3}, {6, 7})
                program = main_of((INT, INT), *blocks)
                for schedule in SCHEDULES:
                    with self.subTest((one, other)):
                        self.assertEqual(shown(program, schedule), ((), "race" if outer or inner else "done"))
                self.assertEqual(taken(program), not (outer or inner))

    def test_readings_of_many_sides_since_the_last_write(self):
        # The first reading is the one with which the write is unordered, whatever was read behind it.
        read = put(0, ("use", copied(1)))
        program = main_of(
            (INT, INT, INT, INT, INT), ((put(1, ("use", ONE)),), ("par", 1, 2, 3)),
            ((put(2, ("use", copied(1))),), JOIN),
            ((put(3, ("use", copied(1))), put(3, ("use", copied(1))), put(1, ("use", SEVEN))), JOIN), ((read,), RETURN),
        )
        for schedule in SCHEDULES:
            self.assertEqual(shown(program, schedule)[1], "race")
        inner = main_of(
            (INT, INT, INT, INT, INT), ((put(1, ("use", ONE)),), ("par", 1, 2, 3)), ((), ("par", 4, 5, 6)),
            ((put(1, ("use", SEVEN)),), JOIN), ((read,), RETURN), ((put(2, ("use", copied(1))),), JOIN),
            ((put(3, ("use", copied(1))),), JOIN), ((), JOIN),
        )
        for schedule in SCHEDULES:
            self.assertEqual(shown(inner, schedule)[1], "race")

    def test_readings_ahead_of_a_write_in_the_same_place(self):
        # Both sides read; behind the par it is written, then both sides of another one read.
        one, other = put(2, ("use", copied(1))), put(3, ("use", copied(1)))
        program = main_of(
            (INT, INT, INT, INT), ((put(1, ("use", ONE)),), ("par", 1, 2, 3)), ((one,), JOIN), ((other,), JOIN),
            ((put(1, ("use", SEVEN)),), ("par", 4, 5, 6)), ((one,), JOIN), ((other,), JOIN),
            ((put(0, ("op", "+", copied(2), copied(3))),), RETURN),
        )
        self.assertEqual(same_as_meaning(self, program), ((), "done", 14))

    def test_a_frame_that_ends_in_a_side(self):
        # A reference to a local of the other side's call.
        keeper = (2, (INT, INT, ("mut", INT)), (((put(1, ("use", ONE)), DONE), RETURN),), ())
        program = main_of((INT, INT, MUT, INT), ((put(1, ("use", ONE)), put(2, ("lend", "mut", whole(1)))),
                                                 ("par", 1, 2, 3)),
                          ((("call", 3, 1, (ZERO, ("move", 2))),), JOIN), ((put(1, ("use", SEVEN)),), JOIN), END,
                          others=(keeper,))
        self.assertEqual(shown(program, ()), ((), "done"))

    def test_results_and_calls_in_both_sides(self):
        other = (1, (INT, INT), (((put(0, ("op", "+", copied(1), ONE)),), RETURN),), ())
        program = main_of((INT, INT, INT, INT), ((put(1, ("use", ONE)),), ("par", 1, 2, 3)),
                          ((("call", 2, 1, (copied(1),)),), JOIN),
                          ((("call", 3, 1, (copied(1),)),), JOIN), ((put(0, ("op", "*", copied(2), copied(3))),),
                                                                    RETURN),
                          others=(other,))
        self.assertEqual(same_as_meaning(self, program), ((), "done", 4))
        same = main_of((INT, INT, INT, INT), ((put(1, ("use", ONE)),), ("par", 1, 2, 3)),
                       ((("call", 2, 1, (copied(1),)),), JOIN),
                       ((("call", 2, 1, (copied(1),)),), JOIN), END, others=(other,))
        for schedule in SCHEDULES:
            self.assertEqual(shown(same, schedule), ((), "race"))


class FaultTest(unittest.TestCase):

    kinds = (INT, VEC, VEC, BOOL)
    ahead = (put(1, ("vec", INT)), put(2, ("vec", INT)))
    bound, empty = put(0, ("use", ("copy", item(1, ZERO)))), ("take", 0, whole(2))
    ending = ((("end", 1), ("end", 2), DONE), RETURN)
    never = 4

    def check(self, word, first, second, more=()):
        """Whatever the schedule is, a run ends with the word, and so does the meaning."""
        program = main_of(self.kinds, (self.ahead, ("par", 1, 2, 3)), first, second, self.ending, *more)
        self.assertTrue(is_mir(program))
        self.assertEqual(meaning(program, (), 1000)[1], word)
        for schedule in SCHEDULES + ((0, 0, 0, 1, 1, 1, 0, 0, 1, 0),):
            with self.subTest((first, second, schedule[:9])):
                self.assertEqual(run_machine(program, (), FIRST, schedule, 5000), ((), word, None))

    def test_in_one_side(self):
        for fault, word in ((self.bound, "bound"), (self.empty, "empty")):
            self.check(word, ((fault,), JOIN), ((), JOIN))
            self.check(word, ((), JOIN), ((fault,), JOIN))

    def test_in_both(self):
        self.check("bound", ((self.bound,), JOIN), ((self.empty,), JOIN))
        self.check("empty", ((self.empty,), JOIN), ((self.bound,), JOIN))

    def test_beside_a_side_that_never_ends(self):
        self.check("bound", ((self.bound,), JOIN), ((), ("go", 2)))
        # The first side never ends, so the fault of the second one is never told.
        program = main_of(self.kinds, (self.ahead, ("par", 1, 2, 3)), ((), ("branch", TRUE, 1, 4)),
                          ((self.bound,), JOIN), self.ending,
                          ((), JOIN))
        for schedule in SCHEDULES:
            self.assertEqual(run_machine(program, (), FIRST, schedule, 500), ((), "steps", None))

    def test_a_fault_of_the_first_side_behind_one_of_the_second(self):
        late = tuple(put(0, ("use", ONE)) for _ in range(5))
        self.check("bound", (late + (self.bound,), JOIN), ((self.empty,), JOIN))
        self.check("empty", (late, JOIN), ((self.empty,), JOIN))
        self.check("empty", ((), JOIN), (late + (self.empty,), JOIN))

    def test_at_several_depths(self):
        inner = ((), ("par", 4, 5, 6))
        ends = (((), JOIN),) * 3
        for at, fault in ((4, "bound"), (5, "bound"), (6, "bound")):
            more = list(ends)
            more[at - 4] = ((self.bound,), JOIN)
            self.check("bound", inner, ((self.empty,), JOIN), more)
            self.check("bound", inner, ((), JOIN), more)
            self.check("empty", ((self.empty,), JOIN), inner, more)
            self.check("bound", ((), JOIN), inner, more)
            self.assertEqual(fault, "bound")
        self.check("bound", inner, ((), JOIN), (((self.bound,), JOIN), ((self.empty,), JOIN), ((), JOIN)))
        self.check("empty", inner, ((), JOIN), (((self.empty,), JOIN), ((self.bound,), JOIN), ((), JOIN)))
        self.check("empty", inner, ((), JOIN), (((), JOIN), ((self.empty,), JOIN), ((self.bound,), JOIN)))
        self.check("bound", inner, ((), JOIN), (((self.bound,), JOIN), ((), ("go", 5)), ((), JOIN)))

    def test_a_fault_in_a_call_of_a_side(self):
        other = (0, (INT, VEC), (((put(1, ("vec", INT)), ("take", 0, whole(1))), RETURN),), ())
        for first, second in (((("call", 0, 1, ()),), ()), ((), (("call", 0, 1, ()),))):
            program = main_of((INT, INT), ((), ("par", 1, 2, 3)), (first, JOIN), (second, JOIN), END, others=(other,))
            for schedule in SCHEDULES:
                self.assertEqual(run_machine(program, (), FIRST, schedule, 1000), ((), "empty", None))

    def test_a_par_in_a_function_that_a_side_calls(self):
        # The fault goes through the call to the thread that waits for the side.
        other = main_of((INT, VEC), ((put(1, ("vec", INT)),), ("par", 1, 2, 3)), ((), JOIN),
                        ((("take", 0, whole(1)),), JOIN), END)[1][0]
        for first, second in (((("call", 0, 1, ()),), ()), ((), (("call", 0, 1, ()),))):
            program = main_of((INT, INT), ((), ("par", 1, 2, 3)), (first, JOIN), (second, JOIN), END, others=(other,))
            for schedule in SCHEDULES:
                self.assertEqual(run_machine(program, (), FIRST, schedule, 1000), ((), "empty", None))

    def test_what_the_other_side_does_meanwhile(self):
        # The second side ends with the first one; the first one goes on behind a fault of the second one.
        program = main_of((INT, VEC), ((put(1, ("vec", INT)),), ("par", 1, 2, 3)), (show(1, 2, 3), JOIN),
                          (show(7) + (("take", 0, whole(1)),) + show(8), JOIN), END)
        for schedule, outs in (((), (1, 2, 3, 7)), ((0, 0, 1, 1, 0, 0, 0, 0), (7, 1, 2, 3)),
                               ((0, 0, 1, 0, 0, 1), (7, 1, 2, 3))):
            self.assertEqual(run_machine(program, (), FIRST, schedule, 100), (outs, "empty", None))
        program = main_of((INT, VEC), ((put(1, ("vec", INT)),), ("par", 1, 2, 3)),
                          (show(1) + (("take", 0, whole(1)),), JOIN),
                          (show(7, 8, 9), JOIN), END)
        for schedule, outs in (((), (1,)), ((0, 0, 1, 0, 1, 0), (7, 1, 8)), ((0, 0) + SECOND, (7, 8, 9, 1))):
            self.assertEqual(run_machine(program, (), FIRST, schedule, 100), (outs, "empty", None))

    def test_something_wrong_ends_all_at_once(self):
        program = main_of((INT, INT, INT), ((), ("par", 1, 2, 3)), (show(1) + (put(0, ("use", copied(1))),), JOIN),
                          (show(2, 3), JOIN),
                          END)
        self.assertEqual(run_machine(program, (), FIRST, (), 100), ((1,), "unowned", None))
        self.assertEqual(run_machine(program, (), FIRST, (0, 1, 0, 0), 100), ((2, 1), "unowned", None))
        program = main_of((INT, VEC), ((put(1, ("vec", INT)),), ("par", 1, 2, 3)),
                          (show(1, 2) + (put(0, ("len", whole(1))),), JOIN),
                          ((("end", 1), ("take", 0, whole(1))), JOIN), END)
        # What is wrong comes ahead of a fault that would be told later.
        self.assertEqual(run_machine(program, (), FIRST, (0, 0, 1, 1), 100), ((), "unowned", None))

    def test_rooms_and_blocks_stay(self):
        # The thread that had a fault held a box; nothing is told of it.
        other = (0, (INT, BOX, VEC), (((put(1, ("box", ONE, INT)), put(2, ("vec", INT)), ("take", 0, whole(2))),
                                       RETURN),), ())
        program = main_of((INT, INT), ((), ("par", 1, 2, 3)), (show(1), JOIN), ((("call", 1, 1, ()),), JOIN), END,
                          others=(other,))
        for schedule in SCHEDULES:
            self.assertEqual(run_machine(program, (), FIRST, schedule, 100), ((1,), "empty", None))


if __name__ == "__main__":
    unittest.main()
