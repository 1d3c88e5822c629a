"""What several tests need."""

from oneowner.errors import TextError
from oneowner.parser import parse

SIGNS = ("{", "}", "(", ")", "[", "]", ",", ";", ":", ".", "=", "+", "-", "*", "<", "!", "==", "->")

EVERYTHING = """# one of each
record pair { one: int, two: box pair }
variant list { none, some(int, vec list) }
fn pick(a: ref pair, b: mut vec int) -> ref pair from a {
  open *a as (c, d);
  match ref (*a).two { none { } some(x, y) { show x; } }
  if !(c == 1) { push(*b, c - 1); } else { take(*b) as e; }
  while c < len(*b) { b[c] = c * 2 + 1; }
  return ref a.two;
}
fn main() -> int {
  let p: pair = pair(1, box pair(2, unbox p));
  par { pick(ref p, mut q[0]); } { }
  return 0;
}
"""


def body_of(text):
    """The statements of a function that has this text as its statements."""
    return parse("fn f() -> int { " + text + " return 0; }")[2][0][4]


def statement_of(text):
    """The tree of one statement."""
    (statement,) = body_of(text)
    return statement


def kind_of(text):
    """The tree of a kind."""
    return statement_of("let a: " + text + " = 0;")[2]


def end_of(text):
    """The place behind the last character of a text."""
    rows = text.split("\n")
    return (len(rows), len(rows[-1]) + 1)


def error_of(read, text):
    """The class and the place of the error that reading a text raises, or None."""
    try:
        read(text)
    except TextError as error:
        return (error.__class__, error.row, error.column)
    return None


def marked(text):
    """A text without its mark @, and the place where the mark stood."""
    ahead, behind = text.split("@")
    return ahead + behind, end_of(ahead)
