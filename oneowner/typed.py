"""Trees of programs to typed programs."""

from oneowner.declarations import Declarations
from oneowner.parser import parse
from oneowner.typed_statements import StatementTyper


def check(program):
    """The typed program of a tree: (book, functions, main)."""
    declarations = Declarations(program)
    functions = []
    for function, signature in zip(program[2], declarations.signatures):
        functions.append(StatementTyper(declarations).typed_function(function, signature))
    return (declarations.book, tuple(functions), declarations.main)


def typed(text):
    """The typed program of a text."""
    return check(parse(text))
