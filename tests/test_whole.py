"""Points 0.3, 5.8 and 5.9: what holds over whole programs."""

import random
import unittest

import programs
from helpers import BOOL, INT, LIST, PAIR
from machine_helpers import ALLOCATORS, SCHEDULES, SOME, WRONG, schedules_for
from mir_helpers import DEREF, JOIN, RETURN, TRUE, ZERO, copied, field, item, main_of, put, whole
from judge_helpers import refusal, refusal_with
from oneowner.judge import taken
from oneowner.lower import lower
from oneowner.machine import run_machine
from oneowner.meaning import meaning
from oneowner.mir import is_mir
from oneowner.papers import best_paper, holds
from oneowner.run import compile_text, run_text
from oneowner.typed import typed

FAULTS = ("bound", "empty", "tag", "steps")
ONE = ("num", 1)


class TextTest(unittest.TestCase):

    def test_the_runs_of_whole_texts(self):
        for text, inputs, wanted in programs.RUNS:
            program = compile_text(text)
            with self.subTest((text.split("(")[0], inputs)):
                self.assertTrue(taken(program))
                self.assertEqual(repr(meaning(program, inputs, 20000)), repr(wanted))
                for allocator in SOME:
                    self.assertEqual(repr(run_machine(program, inputs, allocator, (), 20000)), repr(wanted))
                self.assertEqual(repr(run_text(text, inputs, ("next", 1), (0, 1, 2), 20000)), repr(wanted))
                for schedule in schedules_for(program):
                    found = run_machine(program, inputs, SOME[len(schedule) % 4], schedule, 20000)
                    self.assertEqual(repr(found), repr(wanted))

    def test_a_lasting_round_of_schedules(self):
        program = compile_text(programs.SIDES)
        wanted = meaning(program, (2,), 20000)
        numbers = random.Random(5)
        for _ in range(20):
            schedule = tuple(numbers.randrange(5) for _ in range(numbers.randrange(600)))
            self.assertEqual(run_machine(program, (2,), numbers.choice(ALLOCATORS), schedule, 20000), wanted)

    def test_arguments_are_not_changed_and_runs_do_not_hang_together(self):
        program = compile_text(programs.TREE)
        before = repr(program)
        schedule = [0, 1, 2]
        for _ in range(3):
            found = run_machine(program, (3,), ("next", 2), tuple(schedule), 20000)
            self.assertEqual(found, ((76, 272, 1252), "done", 3))
            self.assertIs(holds(program, best_paper(program)), None)
            self.assertEqual(best_paper(program), best_paper(program))
        self.assertEqual(repr(program), before)


class MiddleTest(unittest.TestCase):

    def test_a_vec_of_vecs_in_sides(self):
        rows = ("vec", ("vec", INT))
        adder = (2, (INT, ("mut", ("vec", INT)), INT), ((
            (("push", (1, (DEREF,)), copied(2)), ("push", (1, (DEREF,)), ("copy", (1, (DEREF, ("index", ZERO))))),
             put(0, ("len", (1, (DEREF,))))), RETURN),), ())
        kinds = (INT, rows, rows, ("vec", INT), ("mut", ("vec", INT)), ("mut", ("vec", INT)), INT, INT, BOOL)
        program = main_of(
            kinds,
            ((put(1, ("vec", ("vec", INT))), put(2, ("vec", ("vec", INT))), put(3, ("vec", INT)),
              ("push", whole(1), ("move", 3)),
              put(3, ("vec", INT)), ("push", whole(2), ("move", 3)), put(4, ("lend", "mut", item(1, ZERO))),
              put(5, ("lend", "mut", item(2, ZERO)))), ("par", 1, 2, 3)),
            ((("call", 6, 1, (("move", 4), ("num", 8))),), JOIN), ((("call", 7, 1, (("move", 5), ("num", 9))),), JOIN),
            ((("show", copied(6)), ("show", ("copy", (1, (("index", ZERO), ("index", ONE))))), ("take", 3, whole(2)),
              ("show", ("copy", item(3, ONE))), ("end", 3), ("end", 2), ("end", 1),
              put(0, ("op", "*", copied(6), copied(7)))),
             RETURN), others=(adder,),
        )
        self.assertTrue(is_mir(program))
        self.assertTrue(taken(program))
        for allocator in ALLOCATORS:
            for schedule in SCHEDULES:
                self.assertEqual(run_machine(program, (), allocator, schedule, 1000), ((2, 8, 9), "done", 4))

    def test_blocks_that_cannot_be_come_to_change_nothing(self):
        kinds = (INT, PAIR, ("box", INT), LIST, ("ref", INT), INT)
        program = main_of(
            kinds,
            ((put(2, ("box", ONE, INT)), put(4, ("lend", "ref", (2, (DEREF,))))), ("go", 2)),
            ((put(5, ("use", copied(5))), ("end", 2), ("show", ("copy", field(1, 0)))), ("go", 2)),
            ((("show", ("copy", (4, (DEREF,)))), ("end", 2), put(0, ("use", ZERO))), RETURN),
            ((), ("go", 1)),
            ((("drop", 2),), JOIN),
            ((), ("par", 2, 1, 0)),
        )
        self.assertTrue(is_mir(program))
        self.assertTrue(taken(program))
        for allocator in ALLOCATORS:
            self.assertEqual(run_machine(program, (), allocator, (), 100), ((1,), "done", 0))

    def test_a_side_whose_join_is_on_one_way_alone(self):
        kinds = (INT, INT, BOOL, BOOL)
        program = main_of(
            kinds,
            ((put(1, ("use", ZERO)), put(3, ("use", copied(2)))), ("par", 1, 2, 3)),
            ((), ("branch", copied(2), 4, 5)), ((), JOIN),
            ((put(0, ("use", copied(1))),), RETURN),
            ((put(1, ("use", ONE)),), JOIN), ((), ("go", 5)),
        )
        self.assertTrue(is_mir(program))
        # Local 2 is not there.
        self.assertFalse(taken(program))
        book, ((_, _, blocks, _),), main = program
        program = (book, ((0, kinds, ((blocks[0][0][:1] + (put(2, ("use", TRUE)),) + blocks[0][0][1:],
                                       blocks[0][1]),) + blocks[1:],
                           ()),), main)
        self.assertTrue(taken(program))
        for schedule in SCHEDULES:
            self.assertEqual(run_machine(program, (), ("first", 1), schedule, 5000), ((), "done", 1))


class LimitTest(unittest.TestCase):
    """Point 0.5: texts nested 40 deep, functions of 200 locals and 200 blocks."""

    def check(self, wanted, text, inputs=()):
        program = compile_text(text)
        self.assertEqual(repr(meaning(program, inputs, 9999)), repr(wanted))
        for schedule in schedules_for(program):
            self.assertEqual(repr(run_text(text, inputs, ("best", 2), schedule, 9999)), repr(wanted))

    def test_statements_within_statements(self):
        many = 38
        for ahead, behind, shown in (
            ("if true { ", " }", (1,)), ("par { ", " } { }", None), ("par { } { ", " }", None),
            ("if a == 1 { } else { ", " }", (1,)),
        ):
            statement = "show 1;" if shown else "a = a + 1;"
            body = ahead * many + statement + behind * many
            self.check((shown or (), "done", 0 if shown else 1),
                       "fn main() -> int { let a: int = 0; " + body + " return a; }")
        body = "while a < 1 { " * many + "a = a + 1;" + " }" * many
        self.check(((), "done", 1), "fn main() -> int { let a: int = 0; " + body + " return a; }")

    def test_expressions_within_expressions(self):
        many = 38
        self.check(((), "done", 9), "fn main() -> int { return " + "unbox box " * 19 + "9; }")
        self.check(((), "done", 1 + many), "fn main() -> int { return " + "(1 + " * many + "1" + ")" * many + "; }")
        self.check(((), "done", True), "fn main() -> bool { return " + "!" * many + "true; }")

    def test_many_locals_and_blocks(self):
        kinds = (INT,) + (("box", INT),) * 198 + (INT,)
        fill = [put(1, ("box", ONE, INT))] + [put(at + 1, ("use", ("move", at))) for at in range(1, 198)]
        program = main_of(kinds, (tuple(fill) + (put(199, ("unbox", 198)), put(0, ("use", copied(199)))), RETURN))
        self.assertTrue(is_mir(program))
        self.assertTrue(taken(program))
        self.assertEqual(run_machine(program, (), ("first", 1), (), 9999), ((), "done", 1))
        blocks = [((("show", ("num", at)),), ("go", at + 1)) for at in range(199)]
        program = main_of((INT,), *blocks, ((put(0, ("use", ZERO)),), RETURN))
        self.assertTrue(is_mir(program))
        self.assertTrue(taken(program))
        self.assertEqual(run_machine(program, (), ("first", 1), (), 9999), (tuple(range(199)), "done", 0))


class ChangedTest(unittest.TestCase):
    """Programs that come of whole ones by small changes, most of which the judge refuses."""

    def changed(self, numbers, program):
        """A program with a few changes of its statements."""
        book, functions, main = program
        functions = list(functions)
        for _ in range(numbers.randrange(1, 4)):
            at = numbers.randrange(len(functions))
            params, kinds, blocks, lenders = functions[at]
            blocks = [[list(statements), way] for statements, way in blocks]
            rows = numbers.choice(blocks)[0]
            other = numbers.choice(blocks)[0]
            change = numbers.randrange(5)
            if change == 0 and rows:
                del rows[numbers.randrange(len(rows))]
            elif change == 1 and other:
                rows.insert(numbers.randrange(len(rows) + 1), numbers.choice(other))
            elif change == 2 and len(rows) > 1:
                one = numbers.randrange(len(rows) - 1)
                rows[one], rows[one + 1] = rows[one + 1], rows[one]
            elif change == 3:
                word = numbers.choice(("drop", "end"))
                rows.insert(numbers.randrange(len(rows) + 1), (word, numbers.randrange(len(kinds))))
            elif change == 4 and other and rows:
                rows[numbers.randrange(len(rows))] = numbers.choice(other)
            functions[at] = (params, kinds, tuple((tuple(statements), way) for statements, way in blocks), lenders)
        return (book, tuple(functions), main)

    def check(self, numbers, program, inputs):
        wanted = meaning(program, inputs, 3000)
        allocator = numbers.choice(ALLOCATORS)
        schedule = tuple(numbers.randrange(4) for _ in range(numbers.choice((0, 20, 400))))
        outs, word, result = run_machine(program, inputs, allocator, schedule, 3000)
        if refusal(program) is None:
            self.assertNotIn(word, WRONG)
            self.assertNotEqual(wanted[1], "stuck")
            if word != "steps":
                self.assertEqual(repr((outs, word, result)), repr(wanted))
            return True
        self.assertIn(word, WRONG + FAULTS + ("done",))
        self.assertEqual(result is None, word != "done")
        return False

    def test_changed_texts(self):
        numbers = random.Random(11)
        many = {True: 0, False: 0}
        for text, inputs, _ in programs.RUNS:
            program = lower(typed(text))
            for _ in range(12):
                changed = self.changed(numbers, program)
                self.assertTrue(is_mir(changed))
                many[self.check(numbers, changed, inputs)] += 1
        self.assertGreater(many[True], 20)
        self.assertGreater(many[False], 80)

    def weaker(self, numbers, program, paper):
        """A paper that says less: less is there, more may be there, is held and lives."""
        found = []
        for (params, kinds, blocks, _), pages in zip(program[1], paper):
            local = numbers.randrange(len(kinds))
            references = [at for at in range(len(kinds)) if kinds[at][0] in ("ref", "mut")]
            loans = [(at, row) for at in range(len(blocks)) for row in range(len(blocks[at][0]))]
            lent = {at: {pair for _, pairs in page[2] for pair in pairs} for at, page in enumerate(pages)}
            pair = numbers.choice(loans) if loans else (0, 0)
            here = []
            choice = numbers.randrange(4)
            for at, (there, may, held, live) in enumerate(pages):
                if choice == 0:
                    there = tuple(other for other in there if other != local)
                elif choice == 1:
                    may = tuple(sorted({*may, local}))
                elif choice == 2 and references:
                    live = tuple(sorted({*live, numbers.choice(references)}))
                elif choice == 3 and references:
                    more = dict(held)
                    more[references[0]] = tuple(sorted({*more.get(references[0], ()), pair, *sorted(lent[at])[:1]}))
                    held = tuple(sorted(more.items()))
                here.append((there, may, held, live))
            found.append(tuple(here))
            self.assertGreaterEqual(params, 0)
        return tuple(found)

    def test_what_is_taken_with_some_paper_is_taken_with_the_best_one(self):
        numbers = random.Random(12)
        refused, accepted = 0, 0
        for text in sorted({text for text, _, _ in programs.RUNS}):
            program = lower(typed(text))
            for _ in range(8):
                changed = self.changed(numbers, program)
                best = best_paper(changed)
                self.assertIsNone(holds(changed, best))
                for paper in [best] + [self.weaker(numbers, changed, best) for _ in range(4)]:
                    found = refusal_with(changed, paper)
                    if found is None:
                        accepted += 1
                        self.assertIsNone(holds(changed, paper))
                        self.assertTrue(taken(changed))
                    else:
                        refused += 1
                        where = holds(changed, paper)
                        self.assertEqual(where is not None, found[3] == "paper")
                        if where is not None:
                            self.assertEqual(found, where + (-1, "paper"))
        self.assertGreater(accepted, 30)
        self.assertGreater(refused, 30)


if __name__ == "__main__":
    unittest.main()
