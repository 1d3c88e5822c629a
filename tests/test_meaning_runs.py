"""Points 4.5, 4.11 and 4.12: pars, frames, steps, and what was shown ahead of the end."""

import unittest

from helpers import BOOL, INT
from mir_helpers import DEREF, JOIN, RETURN, TRUE, ZERO, copied, function, item, main_of, put, straight, whole
from oneowner.meaning import meaning
from oneowner.mir import is_mir

DONE = put(0, ("use", ZERO))
VEC = ("vec", INT)
ONE = ("num", 1)


def num(number):
    return ("num", number)


def shown(number):
    return ("show", ("num", number))


def block(way, *numbers):
    """A block that shows numbers."""
    return (tuple(shown(number) for number in numbers), way)


class RunTest(unittest.TestCase):

    def check(self, program, outs, word="done", result=0, inputs=(), steps=10000):
        with self.subTest((program[1], inputs, steps)):
            self.assertTrue(is_mir(program))
            result = result if word == "done" else None
            self.assertEqual(repr(meaning(program, inputs, steps)), repr((outs, word, result)))

    def takes(self, program, outs, many, inputs=()):
        """A run takes just so many steps, with whatever it shows at which of them."""
        self.check(program, outs, inputs=inputs, steps=many)
        self.check(program, outs, inputs=inputs, steps=many + 1)
        known = ()
        for steps in range(many):
            found = meaning(program, inputs, steps)
            self.assertEqual(found[1:], ("steps", None))
            self.assertEqual(found[0][:len(known)], known)
            self.assertEqual(found[0], outs[:len(found[0])])
            self.assertLessEqual(len(found[0]), len(known) + 1)
            known = found[0]


class ParTest(RunTest):

    def test_one_side_after_the_other(self):
        self.check(main_of((INT,), block(("par", 1, 2, 3), 1), block(JOIN, 2), block(JOIN, 3),
                           ((shown(4), DONE), RETURN)),
                   (1, 2, 3, 4))
        self.check(main_of((INT,), block(("par", 3, 1, 2), 1), block(JOIN, 3), ((shown(4), DONE), RETURN),
                           block(JOIN, 2)),
                   (1, 2, 3, 4))

    def test_sides_of_many_blocks(self):
        self.check(main_of((INT,), block(("par", 1, 2, 3), 1), block(("go", 4), 2), block(("branch", TRUE, 5, 6), 4),
                           ((shown(7), DONE), RETURN), block(JOIN, 3), block(("go", 6), 5), block(JOIN, 6)),
                   (1, 2, 3, 4, 5, 6, 7))

    def test_pars_within_pars(self):
        self.check(main_of((INT,), block(("par", 1, 2, 3), 1), block(("par", 4, 5, 6), 2), block(("par", 7, 8, 9), 6),
                           ((shown(10), DONE), RETURN), block(JOIN, 3), block(JOIN, 4), block(JOIN, 5), block(JOIN, 7),
                           block(JOIN, 8), block(JOIN, 9)),
                   (1, 2, 3, 4, 5, 6, 7, 8, 9, 10))

    def test_pars_in_a_loop(self):
        program = main_of(
            (INT, INT, BOOL), ((), ("go", 1)), ((put(2, ("op", "<", copied(1), num(2))),), ("branch", copied(2), 2, 3)),
            ((), ("par", 4, 5, 6)), ((DONE,), RETURN), ((("show", copied(1)),), JOIN),
            ((shown(7), put(1, ("op", "+", copied(1), ONE))), JOIN), block(("go", 1), 8), params=1,
        )
        self.check(program, (0, 7, 8, 1, 7, 8), inputs=(0,))
        self.takes(program, (0, 7, 8, 1, 7, 8), 25, inputs=(0,))

    def test_locals_are_those_of_the_function(self):
        program = main_of(
            (INT, INT, ("mut", INT), INT), ((put(1, ("use", ONE)), put(2, ("lend", "mut", whole(1)))),
                                            ("par", 1, 2, 3)),
            ((("set", (2, (DEREF,)), ("use", num(5))), put(3, ("use", num(6)))), JOIN),
            ((("show", copied(1)), ("show", copied(3)), ("end", 3)), JOIN),
            ((("show", copied(1)), put(0, ("use", copied(1))), ("show", copied(3))), RETURN),
        )
        self.check(program, (5, 6, 5), "stuck")

    def test_calls_within_sides(self):
        callee = (1, (INT, INT), (((), ("par", 1, 2, 3)), ((("show", copied(1)),), JOIN),
                                  ((put(1, ("op", "+", copied(1), ONE)), ("show", copied(1))), JOIN),
                                  ((put(0, ("use", copied(1))),), RETURN)), ())
        program = main_of((INT, INT, INT), ((), ("par", 1, 2, 3)), ((("call", 1, 1, (num(10),)),), JOIN),
                          ((("call", 2, 1, (num(20),)),), JOIN),
                          ((put(0, ("op", "+", copied(1), copied(2))),), RETURN), others=(callee,))
        self.check(program, (10, 11, 20, 21), result=32)

    def test_a_fault_or_being_stuck_in_a_side_ends_the_run(self):
        for statements, word in (((put(1, ("vec", INT)), ("take", 2, whole(1))), "empty"),
                                 ((("show", copied(2)),), "stuck"),
                                 ((put(1, ("vec", INT)), ("show", ("copy", item(1, ZERO)))), "bound")):
            bad = ((shown(2), *statements, shown(9)), JOIN)
            kinds = (INT, VEC, INT)
            self.check(main_of(kinds, block(("par", 1, 2, 3), 1), bad, block(JOIN, 3), ((DONE,), RETURN)), (1, 2), word)
            self.check(main_of(kinds, block(("par", 1, 2, 3), 1), block(JOIN, 3), bad, ((DONE,), RETURN)), (1, 3, 2),
                       word)

    def test_a_side_that_does_not_end(self):
        self.check(main_of((INT,), block(("par", 1, 2, 3), 1), block(("go", 1)), block(JOIN, 3), ((DONE,), RETURN)),
                   (1,),
                   "steps")


class FrameTest(RunTest):

    def calls(self, many):
        """A program in which so many frames stand above main's."""
        down = (1, (INT, INT, BOOL, INT), (
            ((put(2, ("op", "==", copied(1), ONE)),), ("branch", copied(2), 1, 2)),
            ((put(0, ("use", ONE)), ("show", copied(1))), RETURN),
            ((put(3, ("op", "-", copied(1), ONE)), ("call", 0, 1, (copied(3),)), put(0, ("op", "+", copied(0), ONE))),
             RETURN),
        ), ())
        return straight((INT,), ("call", 0, 1, (num(many),)), others=(down,))

    def test_100_frames(self):
        self.check(self.calls(1), (1,), result=1)
        self.check(self.calls(98), (1,), result=98)
        self.check(self.calls(99), (1,), result=99)
        self.check(self.calls(100), (), "steps")
        self.check(self.calls(150), (), "steps")

    def test_frames_that_are_over_do_not_count(self):
        callee = function(0, (INT,), DONE)
        self.check(straight((INT,), *[("call", 0, 1, ())] * 300, others=(callee,)), ())
        program = self.calls(99)
        main = function(0, (INT,), *[("call", 0, 1, (num(99),))] * 3)
        self.check((program[0], (main,) + program[1][1:], 0), (1, 1, 1), result=99)

    def test_frames_of_calls_in_a_side(self):
        for many, word in ((99, "done"), (100, "steps")):
            program = self.calls(many)
            main = (0, (INT,), (((), ("par", 1, 2, 3)), ((("call", 0, 1, (num(1),)),), JOIN),
                                ((("call", 0, 1, (num(many),)),), JOIN), ((DONE,), RETURN)), ())
            self.check((program[0], (main,) + program[1][1:], 0), (1, 1) if word == "done" else (1,), word)

    def test_the_operands_of_a_call_come_ahead_of_its_frame(self):
        # At 100 frames a call of main again would be one too many.
        for operand, word in ((copied(4), "stuck"), (("copy", item(5, ZERO)), "bound"), (copied(1), "steps")):
            down = (1, (INT, INT, BOOL, INT, INT, VEC), (
                ((put(2, ("op", "==", copied(1), ONE)), put(5, ("vec", INT))), ("branch", copied(2), 1, 2)),
                ((shown(7), ("call", 0, 1, (operand,)), DONE), RETURN),
                ((put(3, ("op", "-", copied(1), ONE)), ("call", 0, 1, (copied(3),))), RETURN),
            ), ())
            self.check(straight((INT,), ("call", 0, 1, (num(99),)), others=(down,)), (7,), word)


class StepTest(RunTest):

    def test_statements_and_ways(self):
        self.takes(straight((INT,), DONE), (), 2)
        self.takes(straight((INT,), DONE, shown(1), shown(2)), (1, 2), 4)
        self.takes(main_of((INT,), ((DONE,), ("go", 1)), block(RETURN, 1)), (1,), 4)
        self.takes(main_of((INT,), ((DONE,), ("branch", TRUE, 1, 1)), block(RETURN, 1)), (1,), 4)
        self.takes(main_of((INT, BOOL), ((DONE, shown(1)), ("branch", copied(1), 2, 1)), block(RETURN, 2),
                           block(("go", 1)),
                           params=1), (1, 2), 6, inputs=(True,))

    def test_calls_and_returns(self):
        callee = function(0, (INT,), put(0, ("use", num(3))), shown(2))
        self.takes(straight((INT,), shown(1), ("call", 0, 1, ()), DONE, shown(3), others=(callee,)), (1, 2, 3), 8)
        self.takes(straight((INT,), ("call", 0, 1, ()), ("call", 0, 1, ()), DONE, others=(callee,)), (2, 2), 10)

    def test_pars_and_joins(self):
        self.takes(main_of((INT,), block(("par", 1, 2, 3), 1), block(JOIN, 2), block(JOIN), ((shown(4), DONE), RETURN)),
                   (1, 2, 4), 8)

    def test_no_steps(self):
        for statements in ((DONE,), (), (("show", copied(0)),), (shown(1),)):
            self.check(straight((INT,), *statements), (), "steps", steps=0)

    def test_how_runs_end_that_have_just_enough_steps(self):
        kinds = (INT, VEC, INT)
        ahead = (put(1, ("vec", INT)), shown(1))
        for statement, word in ((("take", 2, whole(1)), "empty"), (("show", copied(2)), "stuck"),
                                (("show", ("copy", item(1, ZERO))), "bound")):
            program = straight(kinds, *ahead, statement)
            self.check(program, (1,), word, steps=3)
            self.check(program, (1,), "steps", steps=2)
            self.check(program, (), "steps", steps=1)
        # A return without a result is a step, too.
        self.check(straight(kinds, shown(1)), (1,), "stuck", steps=2)
        self.check(straight(kinds, shown(1)), (1,), "steps", steps=1)

    def test_a_run_without_an_end(self):
        self.check(main_of((INT,), block(("go", 0), 1)), (1,) * 50, "steps", steps=100)
        self.check(main_of((INT,), block(("go", 0), 1)), (1,) * 51, "steps", steps=101)


if __name__ == "__main__":
    unittest.main()
