"""Texts are compiled and run."""

from oneowner.errors import ProgramError, Refused, TextError
from oneowner.judge import judge_with_best
from oneowner.lower import lower
from oneowner.machine import run_machine
from oneowner.typed import typed


def compile_text(text):
    """The program of the middle form of a text, which the judge takes."""
    program = lower(typed(text))
    judge_with_best(program)
    return program


def run_text(text, inputs, allocator, schedule, steps):
    """The triple (outs, word, result) of a run of a text on the machine."""
    return run_machine(compile_text(text), inputs, allocator, schedule, steps)


def explained(text):
    """None if a text is compiled without an error, otherwise the name of the error's class, and its fields."""
    try:
        compile_text(text)
    except TextError as in_text:
        return (in_text.called, (in_text.row, in_text.column))
    except ProgramError as in_program:
        return (in_program.called, (in_program.word,))
    except Refused as refused:
        return (refused.called, (refused.function, refused.block, refused.index, refused.word))
    return None
