"""Which things are rvalues, statements and ways of the middle form."""

from oneowner.kinds import DEEPEST, REFERENCES, fits_data
from oneowner.mir_places import BOOL, INT, Places
from oneowner.shapes import is_form, is_index, is_row


class Statements(Places):
    """
    Tells what may stand in a function with locals of these kinds.

    signatures has for each function of the program the pair (kinds of params, kind of result).
    """

    def __init__(self, book, kinds, signatures):
        Places.__init__(self, book, kinds)
        self.signatures = signatures

    def kind_of_rvalue(self, thing):
        """The kind of an rvalue, or None if it is none."""
        if is_form(thing, "use", 2):
            return self.kind_of_operand(thing[1])
        if is_form(thing, "op", 4):
            return self.kind_of_op(thing[1], thing[2:])
        if is_form(thing, "not", 2):
            return BOOL if self.kind_of_operand(thing[1]) == BOOL else None
        if is_form(thing, "unbox", 2):
            kind = self.kind_of_local(thing[1])
            return kind[1] if kind is not None and kind[0] == "box" else None
        if is_form(thing, "lend", 3):
            return self.kind_of_lend(thing[1], thing[2])
        if is_form(thing, "len", 2):
            return INT if self.kind_of_vec(thing[1]) is not None else None
        return self.kind_of_made(thing)

    def kind_of_op(self, sign, operands):
        """The kind that an operator gives, or None if it is none for these operands."""
        if not self.are_operands(operands, (INT, INT)):
            return None
        if sign in ("+", "-", "*"):
            return INT
        return BOOL if sign in ("<", "==") else None

    def kind_of_lend(self, word, place):
        """The kind of a place that is lent, or None if it is none of a data kind."""
        kind = self.kind_of_place(place)
        if kind is None or kind[0] in REFERENCES or word not in REFERENCES:
            return None
        return (word, kind)

    def kind_of_vec(self, place):
        """The kind of the values in a place that is a vec, or None if it is none."""
        kind = self.kind_of_place(place)
        return kind[1] if kind is not None and kind[0] == "vec" else None

    def kind_of_made(self, thing):
        """The kind of an rvalue that makes a new record, variant, box or vec, or None if it is none."""
        records, variants = self.book
        if is_form(thing, "record", 3):
            fits = is_index(thing[1], len(records)) and self.are_operands(thing[2], records[thing[1]])
            return thing[:2] if fits else None
        if is_form(thing, "variant", 4):
            fits = is_index(thing[1], len(variants)) and is_index(thing[2], len(variants[thing[1]])) \
                and self.are_operands(thing[3], variants[thing[1]][thing[2]])
            return thing[:2] if fits else None
        if is_form(thing, "box", 3):
            fits = fits_data(self.book, thing[2], DEEPEST) and self.kind_of_operand(thing[1]) == thing[2]
            return ("box", thing[2]) if fits else None
        if is_form(thing, "vec", 2):
            return thing if fits_data(self.book, thing[1], DEEPEST) else None
        return None

    def fits_statement(self, thing):
        """True if the thing is a statement."""
        if is_form(thing, "set", 3):
            kind = self.kind_of_place(thing[1])
            return kind is not None and self.kind_of_rvalue(thing[2]) == kind
        if is_form(thing, "open", 3):
            return self.fits_opening(thing[1], thing[2])
        if is_form(thing, "unpack", 4):
            return self.fits_unpack(thing[1], thing[2], thing[3])
        if is_form(thing, "push", 3):
            kind = self.kind_of_vec(thing[1])
            return kind is not None and self.kind_of_operand(thing[2]) == kind
        if is_form(thing, "take", 3):
            kind = self.kind_of_vec(thing[2])
            return kind is not None and self.kind_of_local(thing[1]) == kind
        if is_form(thing, "drop", 2) or is_form(thing, "end", 2):
            return self.kind_of_local(thing[1]) is not None
        if is_form(thing, "call", 4):
            return self.fits_call(thing[1], thing[2], thing[3])
        return is_form(thing, "show", 2) and self.kind_of_operand(thing[1]) in (INT, BOOL)

    def fits_opening(self, local, targets):
        """True if a local is a record with the kinds of the targets."""
        kind = self.kind_of_local(local)
        if kind is None or kind[0] != "record":
            return False
        return self.are_targets(targets, self.book[0][kind[1]])

    def fits_unpack(self, local, tag, targets):
        """True if a local is a variant with such a tag, with the kinds of the targets."""
        kind = self.kind_of_local(local)
        if kind is None or kind[0] != "variant":
            return False
        tags = self.book[1][kind[1]]
        return is_index(tag, len(tags)) and self.are_targets(targets, tags[tag])

    def are_targets(self, things, kinds):
        """True if the things are a tuple of different locals that have just these kinds."""
        if not is_row(things, len(kinds), len(kinds)):
            return False
        for thing, kind in zip(things, kinds):
            if self.kind_of_local(thing) != kind:
                return False
        return len(set(things)) == len(things)

    def fits_call(self, local, function, operands):
        """True if a local and operands have the kinds of a function."""
        if not is_index(function, len(self.signatures)):
            return False
        kinds, result = self.signatures[function]
        return self.kind_of_local(local) == result and self.are_operands(operands, kinds)

    def fits_way(self, thing, many):
        """True if the thing is a way of a function with so many blocks."""
        if is_form(thing, "return", 1) or is_form(thing, "join", 1):
            return True
        if is_form(thing, "go", 2) or is_form(thing, "par", 4):
            return are_blocks(thing[1:], many)
        if is_form(thing, "branch", 4):
            return self.kind_of_operand(thing[1]) == BOOL and are_blocks(thing[2:], many)
        return is_form(thing, "switch", 3) and self.fits_switch(thing[1], thing[2], many)

    def fits_switch(self, place, blocks, many):
        """True if a place is a variant, and there is a block for each of its tags."""
        kind = self.kind_of_place(place)
        if kind is None or kind[0] != "variant":
            return False
        tags = self.book[1][kind[1]]
        return is_row(blocks, len(tags), len(tags)) and are_blocks(blocks, many)


def are_blocks(things, many):
    """True if all things of a tuple are blocks of a function with so many."""
    for thing in things:
        if not is_index(thing, many):
            return False
    return True
