"""Kinds, and the books that tell what records and variants are made of."""

REFERENCES = ("ref", "mut")
COPIED = ("int", "bool", "ref")


def is_copied(kind):
    """True if values of the kind are copied when they are used, False if they are moved."""
    return kind[0] in COPIED


def lies_in_itself(book, kind):
    """True if a record or variant lies among its fields or parts, directly or further within."""
    waiting = lying_directly(book, kind)
    seen = set()
    while waiting:
        within = waiting.pop()
        if within == kind:
            return True
        if within not in seen:
            seen.add(within)
            waiting.extend(lying_directly(book, within))
    return False


def lying_directly(book, kind):
    """The list of the records and variants among the fields of a record, or the parts of a variant."""
    records, variants = book
    if kind[0] == "record":
        kinds = records[kind[1]]
    else:
        kinds = [part for parts in variants[kind[1]] for part in parts]
    return [within for within in kinds if within[0] in ("record", "variant")]
