"""Part 9: texts are compiled and run, and what is told of those that have an error."""

import unittest
from unittest.mock import patch

import programs
from judge_helpers import refusal_of_text
from machine_helpers import ALLOCATORS, SCHEDULES
from oneowner.bodies import Body
from oneowner.errors import (
    BadCharacter, BadNumber, DoubleName, Endless, NotWhole, ProgramError, Refused, TextError, Unexpected, UnknownName,
    WrongCount, WrongKind,
)
from oneowner.lower import lower
from oneowner.meaning import meaning
from oneowner.mir import is_mir
from oneowner.run import compile_text, explained, run_text
from oneowner.typed import typed

FIRST = ("first", 1)
MAIN = "fn main() -> int { return 0; }"
GOOD = (
    MAIN,
    "fn main(x: int) -> int { let b: box int = box x; return unbox b; }",
    "record pair { one: int, two: bool } fn main(x: int, y: bool) -> bool { let p: pair = pair(x, y); return p.two; }",
    "fn main() -> int { let a: int = 1; let b: int = 2; par { a = 3; } { b = 4; } return a * b; }",
    "\n\n" + MAIN + "\n# that is all",
    # A while may end, as far as the judge can tell.
    "fn main() -> int { par { while true { } } { } return 0; }",
)
# Each error with the class and the fields that are told of it.
WRONG = (
    ("fn main() -> int { return 0; } @", BadCharacter, (1, 32)),
    ("fn main() -> int {\n  return 0 & 1;\n}", BadCharacter, (2, 12)),
    ("", UnknownName, ("main",)),
    ("fn main() -> int { return 007; }", BadNumber, (1, 27)),
    ("fn main() -> int {\n return 4294967296; }", BadNumber, (2, 9)),
    ("fn main() -> int { return 0 }", Unexpected, (1, 29)),
    ("fn main() -> int { return 0;", Unexpected, (1, 29)),
    ("fn f() -> int { return 0; } fn f() -> int { return 0; } " + MAIN, DoubleName, ("f",)),
    ("fn main() -> int { let a: int = 1; let a: int = 2; return a; }", DoubleName, ("a",)),
    ("fn main() -> int { return x; }", UnknownName, ("x",)),
    ("fn other() -> int { return 0; }", UnknownName, ("main",)),
    ("fn main() -> int { return true; }", WrongKind, ("return",)),
    ("fn main() -> int { return 1 + true; }", WrongKind, ("+",)),
    ("fn main() -> vec int { return vec int; }", WrongKind, ("main",)),
    ("fn f(a: int) -> int { return a; } fn main() -> int { return f(1, 2); }", WrongCount, ("f",)),
    ("record pair { one: int, two: pair } " + MAIN, Endless, ("pair",)),
    ("fn main() -> int { let v: vec box int = vec box int; let b: box int = v[0]; return 0; }", NotWhole, ("v",)),
    ("fn main() -> int { let b: box int = box 1; let c: box int = b; return unbox b; }", Refused, (0, 0, 4, "there")),
    ("fn main() -> int { let a: int = 1; let r: ref int = ref a; *r = 2; return a; }", Refused, (0, 0, 3, "fixed")),
    ("fn main() -> int { let a: int = 1; let r: ref int = ref a; a = 2; return *r; }", Refused, (0, 0, 3, "lent")),
    ("fn f(a: ref int, b: ref int) -> ref int from a { return b; } " + MAIN, Refused, (0, 0, 4, "result")),
    ("fn main() -> int { let a: int = 1; par { a = 2; } { a = 3; } return a; }", Refused, (0, 0, 1, "apart")),
    ("fn main() -> int { par { show 1; } { } return 0; }", Refused, (0, 0, 0, "show")),
    ("fn f() -> int { show 1; return 0; } fn main() -> int { par { f(); } { } return 0; }", Refused, (1, 0, 0, "show")),
)
# Two errors of different parts, and the one that is told.
BOTH = (
    ("fn main() -> int { return x; } @", "BadCharacter"), ("fn main() -> int { return x 1; }", "Unexpected"),
    ("fn main() -> int { return 1 1 @; }", "BadCharacter"), ("fn main() -> int { return 01 @; }", "BadNumber"),
    ("fn main() -> int { let b: box int = box 1; let c: box int = b; let d: box int = b; return true; }", "WrongKind"),
    ("fn main() -> int { let b: box int = box 1; let c: box int = b; let d: box int = b; return 0 }", "Unexpected"),
    ("record a { one: a } fn main() -> int { return x; }", "Endless"),
    ("fn f() -> int { let b: box int = box 1; let c: box int = b; let d: box int = b; return 0; } "
     "fn main() -> int { return x; }", "UnknownName"),
)


class CompileTest(unittest.TestCase):

    def test_good_texts(self):
        for text in GOOD:
            program = compile_text(text)
            self.assertEqual(program, lower(typed(text)))
            self.assertTrue(is_mir(program))
            self.assertIsNone(explained(text))

    def test_wrong_texts(self):
        for text, kind, fields in WRONG:
            with self.subTest(text):
                with self.assertRaises(kind) as raised:
                    compile_text(text)
                error = raised.exception
                self.assertIs(error.__class__, kind)
                if isinstance(error, TextError):
                    self.assertEqual((error.row, error.column), fields)
                elif isinstance(error, ProgramError):
                    self.assertEqual((error.word,), fields)
                else:
                    self.assertEqual((error.function, error.block, error.index, error.word), fields)

    def test_explained(self):
        for text, kind, fields in WRONG:
            with self.subTest(text):
                found = explained(text)
                self.assertEqual(found, (kind.__name__, fields))
                self.assertIsInstance(found, tuple)
                self.assertIsInstance(found[1], tuple)

    def test_it_is_the_best_paper_with_which_the_judge_is_asked(self):
        for text in GOOD:
            self.assertIsNone(refusal_of_text(text))
        for text, kind, fields in WRONG:
            if kind is Refused:
                self.assertEqual(refusal_of_text(text), fields, text)

    def test_the_body_of_each_function_is_made_once(self):
        made = []
        begin = Body.__init__

        def counted(body, functions, at):
            made.append(at)
            begin(body, functions, at)

        with patch.object(Body, "__init__", counted):
            program = compile_text(programs.MANY)
        self.assertEqual(made, list(range(len(program[1]))))

    def test_the_errors_of_the_parts_in_order(self):
        for text, name in BOTH:
            with self.subTest(text):
                self.assertEqual(explained(text)[0], name)
                with self.assertRaises((TextError, ProgramError)) as raised:
                    compile_text(text)
                self.assertEqual(raised.exception.__class__.__name__, name)

    def test_running_raises_the_same(self):
        for text, kind, _ in WRONG:
            with self.assertRaises(kind):
                run_text(text, (), FIRST, (), 100)


class RunTest(unittest.TestCase):

    def check(self, wanted, text, inputs=(), steps=10000):
        for allocator in ALLOCATORS:
            for schedule in SCHEDULES[:3]:
                self.assertEqual(repr(run_text(text, inputs, allocator, schedule, steps)), repr(wanted))
        self.assertEqual(repr(meaning(lower(typed(text)), inputs, steps)), repr(wanted))

    def test_results(self):
        self.check(((), "done", 0), GOOD[0])
        self.check(((), "done", 7), GOOD[1], (7,))
        self.check(((), "done", True), GOOD[2], (7, True))
        self.check(((), "done", False), GOOD[2], (7, False))
        self.check(((), "done", 12), GOOD[3])

    def test_what_is_shown(self):
        self.check(((3, True, 2), "done", 1),
                   "fn main(n: int) -> int { while 0 < n { if n == 2 { show true; } if n == 1 { show 2; } else { "
                   "if 2 < n { show n; } } n = n - 1; } return 1; }", (3,))

    def test_faults(self):
        start = "fn main() -> int { let v: vec int = vec int; show 1; "
        self.check(((1,), "bound", None), start + "return v[0]; }")
        self.check(((1,), "empty", None), start + "take(v) as a; return a; }")
        self.check(((1,), "steps", None), start + "while true { } return 0; }")
        self.check(((), "steps", None), "fn main() -> int { return main(); }")
        self.check(((), "empty", None), "fn main() -> int { let v: vec int = vec int; par { take(v) as a; } { } return 0; }")

    def test_the_limit_of_steps(self):
        text = "fn main() -> int { show 1; return 0; }"
        for steps, wanted in ((0, ((), "steps", None)), (1, ((1,), "steps", None)), (2, ((1,), "steps", None)),
                              (3, ((1,), "done", 0)), (4, ((1,), "done", 0))):
            self.check(wanted, text, steps=steps)


if __name__ == "__main__":
    unittest.main()
