"""The right form of programs of the middle form."""

from oneowner.kinds import REFERENCES, fits_kind, is_book
from oneowner.mir_places import BOOL, INT, Places
from oneowner.mir_statements import Statements
from oneowner.regions import regions_of_blocks
from oneowner.shapes import is_index, is_row

MOST_LOCALS = 200
MOST_BLOCKS = 200
MOST_FUNCTIONS = 60


def is_mir(thing):
    """True if the thing is a program of the right form."""
    if not is_row(thing, 3, 3):
        return False
    book, functions, main = thing
    if not is_book(book) or not is_row(functions, 1, MOST_FUNCTIONS) or not is_index(main, len(functions)):
        return False
    for function in functions:
        if not has_head(book, function):
            return False
    if not may_be_main(functions[main]):
        return False
    signatures = [signature_of(function) for function in functions]
    for function in functions:
        if not has_body(book, function, signatures):
            return False
    return True


def has_head(book, thing):
    """True if the thing has the form of a function, whatever its blocks are."""
    if not is_row(thing, 4, 4):
        return False
    params, kinds, blocks, lenders = thing
    if not is_row(kinds, 1, MOST_LOCALS) or not is_index(params, len(kinds)) or not is_row(blocks, 1, MOST_BLOCKS):
        return False
    for kind in kinds:
        if not fits_kind(book, kind):
            return False
    return are_lenders(lenders, params) and may_lend(kinds, lenders)


def are_lenders(things, params):
    """True if the things are an ascending tuple of the locals of params."""
    if not isinstance(things, tuple):
        return False
    last = 0
    for thing in things:
        if not is_index(thing, params + 1) or thing <= last:
            return False
        last = thing
    return True


def may_lend(kinds, lenders):
    """True if the result of a function may be lent from just these params."""
    result = kinds[0]
    if result[0] not in REFERENCES:
        return len(lenders) == 0
    for lender in lenders:
        if kinds[lender][0] not in REFERENCES or (result[0] == "mut" and kinds[lender][0] != "mut"):
            return False
    return len(lenders) > 0


def may_be_main(function):
    """True if the params and the result of a function are int or bool."""
    kinds, result = signature_of(function)
    for kind in (result, *kinds):
        if kind not in (INT, BOOL):
            return False
    return True


def signature_of(function):
    """The kinds of the params of a function, and the kind of its result."""
    params, kinds, _, _ = function
    return (kinds[1:params + 1], kinds[0])


def has_body(book, function, signatures):
    """True if the blocks of a function are right."""
    _, kinds, blocks, _ = function
    statements = Statements(book, kinds, signatures)
    for block in blocks:
        if not is_block(statements, block, len(blocks)):
            return False
    return regions_of_blocks(blocks) is not None


def is_block(statements, thing, many):
    """True if the thing is a block of a function that has so many."""
    if not is_row(thing, 2, 2) or not isinstance(thing[0], tuple):
        return False
    for statement in thing[0]:
        if not statements.fits_statement(statement):
            return False
    return statements.fits_way(thing[1], many)


def kind_of_place(book, kinds, place):
    """The kind of a place over the kinds of locals, or None if it is none."""
    return Places(book, kinds).kind_of_place(place)


def kind_of_operand(book, kinds, operand):
    """The kind of an operand over the kinds of locals, or None if it is none."""
    return Places(book, kinds).kind_of_operand(operand)


def regions_of(function):
    """For each block of a function of the right form the block that begins its region, or -1."""
    return regions_of_blocks(function[2])
