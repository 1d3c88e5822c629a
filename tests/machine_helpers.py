"""What tests of the machine need."""

from oneowner.judge import taken
from oneowner.machine import run_machine
from oneowner.meaning import meaning

POLICIES = ("first", "best", "next", "bump")
ALLOCATORS = tuple((policy, unit) for policy in POLICIES for unit in (1, 2, 4, 8))
SOME = (("first", 1), ("best", 2), ("next", 4), ("bump", 8))
ROUND = tuple(range(3)) * 400
SCHEDULES = ((), (1,) * 2000, (0, 1) * 1000, ROUND, (1, 1, 0, 2, 5, 10 ** 30) * 300)
WRONG = ("unowned", "unset", "free", "race", "held")


def with_ends(program):
    """A program whose functions end all their locals but the result ahead of their returns."""
    book, functions, main = program
    found = []
    for params, kinds, blocks, lenders in functions:
        ends = tuple(("end", local) for local in range(1, len(kinds)))
        found.append((params, kinds, tuple((statements + ends if way == ("return",) else statements, way)
                                           for statements, way in blocks), lenders))
    return (book, tuple(found), main)


def schedules_for(program):
    """Several schedules for a program with a par; for another one there is nothing to choose."""
    pars = [way for function in program[1] for _, way in function[2] if way[0] == "par"]
    return SCHEDULES if pars else SCHEDULES[:1]


def compare(test, program, inputs=(), steps=20000, allocators=SOME):
    """
    The machine does with a program, whose locals end ahead of returns, what its meaning is.

    If the judge does not take it, something may be wrong with the run at some moment.
    """
    program = with_ends(program)
    wanted = meaning(program, inputs, steps)
    is_taken = taken(program)
    for allocator in allocators:
        for schedule in schedules_for(program) if is_taken else SCHEDULES[:1]:
            outs, word, result = run_machine(program, inputs, allocator, schedule, steps)
            if is_taken or (wanted[1] != "stuck" and word not in WRONG):
                test.assertEqual(repr((outs, word, result)), repr(wanted))
            elif word in WRONG:
                test.assertEqual(outs, wanted[0][:len(outs)])
                test.assertIsNone(result)


def same_as_meaning(test, program, inputs=(), steps=20000, allocators=ALLOCATORS):
    """The machine does with a program that the judge takes what its meaning is; returns that."""
    test.assertTrue(taken(program))
    wanted = meaning(program, inputs, steps)
    for allocator in allocators:
        for schedule in schedules_for(program):
            test.assertEqual(repr(run_machine(program, inputs, allocator, schedule, steps)), repr(wanted))
    return wanted
