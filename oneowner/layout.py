"""How the values of the kinds of a book lie in words."""

from oneowner.kinds import SIZES, sizes_of

WITH_BLOCKS = ("box", "vec")


class Layout:
    """
    The places of fields and parts, and which kinds may have blocks.

    fields has for each record the pairs (kind, place) of its fields, parts for each variant and
    each tag those of its parts; holding has the records and variants whose values may have blocks.
    """

    def __init__(self, book):
        records, variants = book
        self.sizes = sizes_of(book)
        self.fields = [self.placed(kinds, 0) for kinds in records]
        self.parts = [[self.placed(kinds, 1) for kinds in tags] for tags in variants]
        self.holding = {}
        self.find_holding()

    def placed(self, kinds, place):
        """The pairs (kind, place) of kinds that lie one behind the other."""
        found = []
        for kind in kinds:
            found.append((kind, place))
            place = place + self.size_for(kind)
        return found

    def size_for(self, kind):
        """The size of a kind."""
        return SIZES[kind[0]] if kind[0] in SIZES else self.sizes[kind]

    def find_holding(self):
        """Finds the records and variants whose values may have blocks."""
        many = -1
        while len(self.holding) > many:
            many = len(self.holding)
            for kind in self.sizes:
                for within, _ in self.lying_in(kind):
                    if self.may_have_blocks(within):
                        self.holding[kind] = True

    def lying_in(self, kind):
        """The pairs (kind, place) of the fields of a record, or of the parts of all tags of a variant."""
        if kind[0] == "record":
            return self.fields[kind[1]]
        return [pair for parts in self.parts[kind[1]] for pair in parts]

    def may_have_blocks(self, kind):
        """True if values of a kind may have blocks."""
        return kind[0] in WITH_BLOCKS or (kind[0] in ("record", "variant") and kind in self.holding)

    def parts_of_tag(self, number, tag):
        """The pairs (kind, place) of the parts of a tag of a variant, none if it is no tag."""
        tags = self.parts[number]
        return tags[tag] if tag < len(tags) else []
