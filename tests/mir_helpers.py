"""What tests of the middle form need."""

from helpers import BOOK, BOOL, HELD, INT, LIST, PAIR, WAY

# The locals of the function under test.
KINDS = (
    INT, INT, BOOL, PAIR, HELD, LIST, WAY, ("box", INT), ("vec", INT), ("vec", ("box", PAIR)), ("ref", INT),
    ("ref", HELD), ("mut", ("vec", INT)), ("mut", LIST), ("box", LIST), ("vec", PAIR), BOOL, PAIR, ("ref", PAIR),
)
R, I, T, P, H, L, W, B, V, VB, RI, RH, MV, ML, BL, VP, T2, P2, RP = range(19)
ZERO, TRUE = ("num", 0), ("truth", True)
DEREF = ("deref",)
RETURN, JOIN = ("return",), ("join",)
NOTHING = ((), RETURN)
# Other functions: main, one of many params, and one of none; the function under test comes behind them.
OTHERS = (
    (0, (INT,), (NOTHING,), ()),
    (4, (PAIR, INT, PAIR, ("ref", PAIR), ("mut", ("vec", INT))), (NOTHING,), ()),
    (0, (LIST,), (NOTHING,), ()),
    (2, (("ref", INT), ("ref", HELD), INT), (NOTHING,), (1,)),
)
UNDER_TEST = len(OTHERS)


def copied(local):
    return ("copy", (local, ()))


def whole(local):
    return (local, ())


def put(local, rvalue):
    return ("set", (local, ()), rvalue)


def field(local, *numbers):
    return (local, tuple(("field", number) for number in numbers))


def item(local, operand):
    return (local, (("index", operand),))


def deep_item(local, operand, many):
    """An item of a vec at an index that is an item of it, and so on, the innermost one at the operand."""
    place = item(local, operand)
    for _ in range(many):
        place = item(local, ("copy", place))
    return place


def program_of_blocks(*blocks):
    """A program whose last function has the locals KINDS and these blocks."""
    return (BOOK, OTHERS + ((0, KINDS, blocks, ()),), 0)


def program_of(statement):
    """A program whose last function has this statement alone."""
    return program_of_blocks(((statement,), RETURN))


def ways(*found):
    """A program whose last function has a block without statements for each of these ways."""
    return program_of_blocks(*[((), way) for way in found])


def main_of(kinds, *blocks, params=0, others=(), book=BOOK):
    """A program whose main, its first function, has these locals and blocks, with other functions behind it."""
    return (book, ((params, kinds, blocks, ()),) + others, 0)


def straight(kinds, *statements, params=0, others=(), book=BOOK):
    """A program whose main has these locals, and these statements in its one block."""
    return main_of(kinds, (statements, RETURN), params=params, others=others, book=book)


def function(params, kinds, *statements, lenders=()):
    """A function with these statements in its one block."""
    return (params, kinds, ((statements, RETURN),), lenders)
