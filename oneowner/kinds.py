"""Kinds, the books that tell what records and variants are made of, sizes, and values."""

from oneowner.shapes import is_form, is_index, is_row, is_word

REFERENCES = ("ref", "mut")
COPIED = ("int", "bool", "ref")
# The sizes of the kinds that have the same one in every book.
SIZES = {"int": 1, "bool": 1, "box": 1, "ref": 1, "mut": 1, "vec": 3}

MOST_DECLARED = 40
MOST_PARTS = 20
MOST_WORDS = 1000
DEEPEST = 12


def is_book(thing):
    """True if the thing is a right book."""
    return is_book_shape(thing) and has_right_kinds(thing) and has_right_sizes(thing)


def is_book_shape(thing):
    """True if the thing has the tuples of a book, whatever stands for its kinds."""
    if not is_row(thing, 2, 2):
        return False
    records, variants = thing
    if not is_row(records, 0, MOST_DECLARED) or not is_row(variants, 0, MOST_DECLARED):
        return False
    for fields in records:
        if not is_row(fields, 0, MOST_PARTS):
            return False
    for tags in variants:
        if not is_row(tags, 1, MOST_PARTS):
            return False
        for parts in tags:
            if not is_row(parts, 0, MOST_PARTS):
                return False
    return True


def has_right_kinds(book):
    """True if the kinds in what has the shape of a book are data kinds of it."""
    for kinds in rows_of_book(book):
        for kind in kinds:
            if not fits_data(book, kind, DEEPEST):
                return False
    return True


def rows_of_book(book):
    """The list of the rows of kinds in a book: those of the records, then those of the tags."""
    records, variants = book
    return [*records, *[parts for tags in variants for parts in tags]]


def has_right_sizes(book):
    """True if nothing in the book lies in itself, and no size is too large."""
    records, variants = book
    sizes = sizes_of(book)
    if len(sizes) < len(records) + len(variants):
        return False
    for kind in sizes:
        if sizes[kind] > MOST_WORDS:
            return False
    return True


def fits_data(book, thing, deep):
    """True if the thing is a data kind over what has the shape of a book, and not deeper than told."""
    for _ in range(deep):
        if is_form(thing, "int", 1) or is_form(thing, "bool", 1):
            return True
        if is_form(thing, "record", 2):
            return is_index(thing[1], len(book[0]))
        if is_form(thing, "variant", 2):
            return is_index(thing[1], len(book[1]))
        if not is_form(thing, "box", 2) and not is_form(thing, "vec", 2):
            return False
        thing = thing[1]
    return False


def fits_kind(book, thing):
    """True if the thing is a data kind or a reference kind over a right book."""
    if is_form(thing, "ref", 2) or is_form(thing, "mut", 2):
        return fits_data(book, thing[1], DEEPEST - 1)
    return fits_data(book, thing, DEEPEST)


def is_kind(book, thing):
    """True if the book is right and the thing is a data kind or a reference kind over it."""
    return is_book(book) and fits_kind(book, thing)


def is_data(book, thing):
    """True if the book is right and the thing is a data kind over it."""
    return is_book(book) and fits_data(book, thing, DEEPEST)


def is_copied(kind):
    """True if values of the kind are copied when they are used, False if they are moved."""
    return kind[0] in COPIED


def lies_in_itself(book, kind):
    """True if a record or variant lies among its fields or parts, directly or further within."""
    waiting = lying_directly(book, kind)
    seen = set()
    while waiting:
        within = waiting.pop()
        if within == kind:
            return True
        if within not in seen:
            seen.add(within)
            waiting.extend(lying_directly(book, within))
    return False


def lying_directly(book, kind):
    """The list of the records and variants among the fields of a record, or the parts of a variant."""
    records, variants = book
    if kind[0] == "record":
        kinds = records[kind[1]]
    else:
        kinds = [part for parts in variants[kind[1]] for part in parts]
    return [within for within in kinds if within[0] in ("record", "variant")]


def sizes_of(book):
    """The sizes of all records and variants, but for those that lie in themselves or hold such ones."""
    records, variants = book
    waiting = [("record", at) for at in range(len(records))]
    waiting.extend([("variant", at) for at in range(len(variants))])
    sizes = {}
    many = -1
    # Each round finds the sizes of what holds only such as have got theirs.
    while len(sizes) > many:
        many = len(sizes)
        left = []
        for kind in waiting:
            if has_sizes_within(book, sizes, kind):
                sizes[kind] = size_by(book, sizes, kind)
            else:
                left.append(kind)
        waiting = left
    return sizes


def has_sizes_within(book, sizes, kind):
    """True if the sizes are known of all that lies directly in a record or variant."""
    for within in lying_directly(book, kind):
        if within not in sizes:
            return False
    return True


def size_by(book, sizes, kind):
    """The size of a record or variant, by the sizes of what lies in it."""
    if kind[0] == "record":
        return total_size(sizes, book[0][kind[1]])
    return 1 + max([total_size(sizes, parts) for parts in book[1][kind[1]]])


def total_size(sizes, kinds):
    """The sum of the sizes of kinds."""
    total = 0
    for kind in kinds:
        total = total + size_in(sizes, kind)
    return total


def size_in(sizes, kind):
    """The size of a kind, by the sizes of the records and variants."""
    if kind[0] in SIZES:
        return SIZES[kind[0]]
    return sizes[kind]


def size_of(book, kind):
    """The number of words of the values of a kind."""
    return size_in(sizes_of(book), kind)


def field_place(book, number, at):
    """The place of a field in its record."""
    return total_size(sizes_of(book), book[0][number][:at])


def part_place(book, number, tag, at):
    """The place of a part of a tag in its variant."""
    return 1 + total_size(sizes_of(book), book[1][number][tag][:at])


def is_value(book, kind, thing):
    """True if the thing is a value of a data kind."""
    # Values may be nested far deeper than calls, so what is left to look at waits in a list.
    waiting = [(kind, thing)]
    while waiting:
        next_kind, next_thing = waiting.pop()
        within = values_within(book, next_kind, next_thing)
        if within is None:
            return False
        waiting.extend(within)
    return True


def values_within(book, kind, thing):
    """The pairs (kind, thing) that must fit so that a thing is a value of a kind; None if it is none."""
    word = kind[0]
    if word == "int":
        return [] if is_word(thing) else None
    if word == "bool":
        return [] if isinstance(thing, bool) else None
    if word == "record":
        return paired(book[0][kind[1]], thing[1]) if is_form(thing, "record", 2) else None
    if word == "variant":
        tags = book[1][kind[1]]
        if not is_form(thing, "variant", 3) or not is_index(thing[1], len(tags)):
            return None
        return paired(tags[thing[1]], thing[2])
    if word == "box":
        return [(kind[1], thing[1])] if is_form(thing, "box", 2) else None
    if word != "vec" or not is_form(thing, "vec", 2) or not isinstance(thing[1], tuple):
        return None
    return [(kind[1], item) for item in thing[1]]


def paired(kinds, things):
    """The pairs of kinds and things; None if the things are no tuple of as many."""
    if not is_row(things, len(kinds), len(kinds)):
        return None
    return list(zip(kinds, things))
