"""A function of the middle form while it is made."""


class Draft:
    """The kinds of the locals and the blocks of a function so far; rows go to the block that is at."""

    def __init__(self, kinds):
        self.kinds = list(kinds)
        self.rows = []
        self.ways = []
        self.at = self.new_block()

    def new_local(self, kind):
        """One more local; returns its number."""
        self.kinds.append(kind)
        return len(self.kinds) - 1

    def new_block(self):
        """One more block, in which nothing stands yet; returns its number."""
        self.rows.append([])
        self.ways.append(("return",))
        return len(self.rows) - 1

    def put(self, row):
        """One more row in the block that is at."""
        self.rows[self.at].append(row)

    def end_with(self, way):
        """The way of the block that is at."""
        self.ways[self.at] = way

    def blocks(self):
        """The tuple of the blocks."""
        return tuple([(tuple(rows), way) for rows, way in zip(self.rows, self.ways)])
