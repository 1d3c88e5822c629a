"""The kinds of places and operands of the middle form; what they are asked about may be any thing."""

from oneowner.kinds import is_copied
from oneowner.shapes import is_form, is_index, is_row, is_word

INT = ("int",)
BOOL = ("bool",)
MOST_PROJECTIONS = 8
HOLDERS = ("box", "ref", "mut")


class Places:
    """The kinds of the locals of a function over a right book."""

    def __init__(self, book, kinds):
        self.book = book
        self.kinds = kinds

    def kind_of_local(self, thing):
        """The kind of a local, or None if it is none."""
        if not is_index(thing, len(self.kinds)):
            return None
        return self.kinds[thing]

    def kind_of_place(self, thing):
        """The kind of a place, or None if it is none."""
        # Places may stand within the indexes of places far deeper than calls: each is looked at on its own.
        for within in places_in_indexes(thing):
            if self.kind_by_itself(within) != INT:
                return None
        return self.kind_by_itself(thing)

    def kind_by_itself(self, thing):
        """The kind of a place if those that are copied in its indexes are ints, or None if it is none."""
        if not has_place_shape(thing):
            return None
        kind = self.kind_of_local(thing[0])
        for projection in thing[1]:
            if kind is None:
                return None
            kind = self.kind_behind(kind, projection)
        return kind

    def kind_behind(self, kind, projection):
        """The kind to which a projection goes from one, or None if it is none there."""
        if is_form(projection, "field", 2):
            return kind_of_field(self.book, kind, projection[1])
        if is_form(projection, "deref", 1):
            return kind[1] if kind[0] in HOLDERS else None
        if is_form(projection, "index", 2):
            return kind[1] if kind[0] == "vec" and may_be_index(projection[1]) else None
        if is_form(projection, "part", 3):
            return kind_of_part(self.book, kind, projection[1], projection[2])
        return None

    def kind_of_operand(self, thing):
        """The kind of an operand, or None if it is none."""
        if is_form(thing, "num", 2):
            return INT if is_word(thing[1]) else None
        if is_form(thing, "truth", 2):
            return BOOL if isinstance(thing[1], bool) else None
        if is_form(thing, "copy", 2):
            kind = self.kind_of_place(thing[1])
            return kind if kind is not None and is_copied(kind) else None
        if is_form(thing, "move", 2):
            kind = self.kind_of_local(thing[1])
            return kind if kind is not None and not is_copied(kind) else None
        return None

    def are_operands(self, things, kinds):
        """True if the things are a tuple of operands that have just these kinds."""
        if not is_row(things, len(kinds), len(kinds)):
            return False
        for thing, kind in zip(things, kinds):
            if self.kind_of_operand(thing) != kind:
                return False
        return True


def has_place_shape(thing):
    """True if the thing is a pair with a tuple of not too many behind."""
    return is_row(thing, 2, 2) and is_row(thing[1], 0, MOST_PROJECTIONS)


def may_be_index(thing):
    """True if the thing is a word, or a copy of what is looked at elsewhere."""
    if is_form(thing, "num", 2):
        return is_word(thing[1])
    return is_form(thing, "copy", 2)


def places_in_indexes(thing):
    """The list of what is copied in the indexes of a thing that may be a place, in their indexes, and so on."""
    found = []
    waiting = [thing]
    while waiting:
        place = waiting.pop()
        if has_place_shape(place):
            copied = [step[1][1] for step in place[1] if is_form(step, "index", 2) and is_form(step[1], "copy", 2)]
            found.extend(copied)
            waiting.extend(copied)
    return found


def kind_of_field(book, kind, thing):
    """The kind of the field with a number in a kind, or None if there is none."""
    if kind[0] != "record":
        return None
    fields = book[0][kind[1]]
    return fields[thing] if is_index(thing, len(fields)) else None


def kind_of_part(book, kind, tag, thing):
    """The kind of the part with a number of a tag in a kind, or None if there is none."""
    if kind[0] != "variant" or not is_index(tag, len(book[1][kind[1]])):
        return None
    parts = book[1][kind[1]][tag]
    return parts[thing] if is_index(thing, len(parts)) else None
