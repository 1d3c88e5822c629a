"""What tests of papers and of the judge need."""

from oneowner.errors import Refused
from oneowner.judge import judge, judge_with_best, taken
from oneowner.lower import lower
from oneowner.mir import is_mir
from oneowner.papers import best_paper, holds
from oneowner.typed import typed

EMPTY = ((), (), (), ())


def refusal(program):
    """What the judge says of a program with its best paper: None, or (function, block, index, word)."""
    assert is_mir(program), program
    best = best_paper(program)
    assert holds(program, best) is None
    found = refusal_with(program, best)
    assert refusal_by(judge_with_best, program) == found
    assert taken(program) is (found is None)
    return found


def refusal_with(program, paper):
    """What the judge says of a program with a paper."""
    return refusal_by(judge, program, paper)


def refusal_by(judging, *arguments):
    """What judging with these arguments says: None, or (function, block, index, word)."""
    try:
        found = judging(*arguments)
    except Refused as error:
        return (error.function, error.block, error.index, error.word)
    assert found is None
    return None


def refusal_of_text(text):
    """What the judge says of a text."""
    return refusal(lower(typed(text)))


def page(there, may=None, held=(), live=()):
    """A page of a paper; what may be there is what is there if it is not told."""
    return (there, there if may is None else may, held, live)


def with_page(paper, function, block, at, member):
    """A paper with another member in the page of a block."""
    pages = paper[function]
    other = pages[block][:at] + (member,) + pages[block][at + 1:]
    return paper[:function] + (pages[:block] + (other,) + pages[block + 1:],) + paper[function + 1:]
