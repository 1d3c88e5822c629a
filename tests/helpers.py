"""What several tests need."""

from oneowner.errors import ProgramError, TextError
from oneowner.parser import parse
from oneowner.typed import typed

SIGNS = ("{", "}", "(", ")", "[", "]", ",", ";", ":", ".", "=", "+", "-", "*", "<", "!", "==", "->")

EVERYTHING = """# one of each
record pair { one: int, two: box pair }
variant list { none, some(int, vec list) }
fn pick(a: ref pair, b: mut vec int) -> ref pair from a {
  open *a as (c, d);
  match ref (*a).two { none { } some(x, y) { show x; } }
  if !(c == 1) { push(*b, c - 1); } else { take(*b) as e; }
  while c < len(*b) { b[c] = c * 2 + 1; }
  return ref a.two;
}
fn main() -> int {
  let p: pair = pair(1, box pair(2, unbox p));
  par { pick(ref p, mut q[0]); } { }
  return 0;
}
"""


def body_of(text):
    """The statements of a function that has this text as its statements."""
    return parse("fn f() -> int { " + text + " return 0; }")[2][0][4]


def statement_of(text):
    """The tree of one statement."""
    (statement,) = body_of(text)
    return statement


def kind_of(text):
    """The tree of a kind."""
    return statement_of("let a: " + text + " = 0;")[2]


def end_of(text):
    """The place behind the last character of a text."""
    rows = text.split("\n")
    return (len(rows), len(rows[-1]) + 1)


def error_of(read, text):
    """The class and the place of the error that reading a text raises, or None."""
    try:
        read(text)
    except TextError as error:
        return (error.__class__, error.row, error.column)
    return None


def marked(text):
    """A text without its mark @, and the place where the mark stood."""
    ahead, behind = text.split("@")
    return ahead + behind, end_of(ahead)


# Declarations that tests of typing and lowering stand on; the function under test is the fifth one.
DECLARED = """record pair { one: int, two: bool }
record held { item: box int, rows: vec pair, tail: list }
variant list { none, some(int, box list), both(bool, pair) }
variant way { up, down }
fn plain() -> int { return 0; }
fn taken(a: int, b: pair, c: ref pair, d: mut vec int) -> pair { return b; }
fn lent(a: int, b: ref pair, c: ref int) -> ref int from b, c { return c; }
fn main() -> int { return 0; }
"""
INT, BOOL = ("int",), ("bool",)
PAIR, HELD = ("record", 0), ("record", 1)
LIST, WAY = ("variant", 0), ("variant", 1)
BOOK = (
    ((INT, BOOL), (("box", INT), ("vec", PAIR), LIST)),
    (((), (INT, ("box", LIST)), (BOOL, PAIR)), ((), ())),
)
PLAIN, TAKEN, LENT, MAIN, IT = 0, 1, 2, 3, 4


def text_of_it(params, body, value="0", result="int"):
    """A program whose last function has these params, statements and value."""
    return DECLARED + "fn it(" + params + ") -> " + result + " { " + body + " return " + value + "; }"


def program_error_of(text):
    """The class and the word of the error that typing a text raises, or None."""
    try:
        typed(text)
    except ProgramError as error:
        return (error.__class__.__name__, error.word)
    return None


def replaced(thing, others):
    """What comes of a nested tuple when each part of it, itself among them, becomes each of the others."""
    for other in others:
        yield other
    if isinstance(thing, tuple):
        for at in range(len(thing)):
            for within in replaced(thing[at], others):
                yield thing[:at] + (within,) + thing[at + 1:]


def longer(thing, others):
    """What comes of a nested tuple when each tuple in it gets each of the others behind its end."""
    if isinstance(thing, tuple):
        for other in others:
            yield thing + (other,)
        for at in range(len(thing)):
            for within in longer(thing[at], others):
                yield thing[:at] + (within,) + thing[at + 1:]


def deep_kind(word, many, within=INT):
    """A kind that is by so many deeper than the one within."""
    for _ in range(many):
        within = (word, within)
    return within


def deep_thing(many):
    """A thing of one thing, and so on, that is nested so deep."""
    thing = ()
    for _ in range(many):
        thing = (thing,)
    return thing
