"""The ways of the blocks of a function, with the sides of a par one behind the other."""

from oneowner.regions import NO_REGION, blocks_of_way, regions_of_blocks

OWN_REGION = 0


class Flow:
    """
    Which blocks come behind which, and which ones can be come to.

    nexts has for each block those to which its way leads, reached whether it can be come to, and
    makers for the first block of each region the block with the par that begins it.
    """

    def __init__(self, body):
        self.body = body
        self.regions = regions_of_blocks(body)
        self.makers = self.find_makers()
        self.nexts = [self.blocks_behind(at) for at in range(len(body))]
        self.reached = reached_by(self.nexts)

    def find_makers(self):
        """The block with the par that begins a region, by the first block of the region."""
        makers = {}
        for at in range(len(self.body)):
            way = self.body[at][1]
            # A par that cannot be come to begins nothing, though it may name the same blocks.
            if way[0] == "par" and self.regions[at] != NO_REGION:
                makers[way[1]] = at
                makers[way[2]] = at
        return makers

    def blocks_behind(self, at):
        """The blocks to which the way of a block leads."""
        way = self.body[at][1]
        if way[0] == "par":
            return (way[1],)
        if way[0] == "join" and self.regions[at] != NO_REGION:
            return (self.block_behind_side(self.regions[at]),)
        return blocks_of_way(way)

    def block_behind_side(self, begin):
        """The block to which the joins of the side of a par lead that begins with a block."""
        _, first, second, behind = self.body[self.makers[begin]][1]
        return second if begin == first else behind

    def sides_around(self, at):
        """The first blocks of the sides within which a block that can be come to lies."""
        found = []
        region = self.regions[at]
        while region != OWN_REGION:
            found.append(region)
            region = self.regions[self.makers[region]]
        return found

    def blocks_of_side(self, begin):
        """The blocks that can be come to within the side that begins with a block."""
        return [at for at in self.reached_blocks() if begin in self.sides_around(at)]

    def pars_ahead(self, at):
        """The blocks with the pars in whose second sides a block that can be come to lies."""
        return [self.makers[begin] for begin in self.sides_around(at) if self.is_second(begin)]

    def is_second(self, begin):
        """True if the side that begins with a block is the second one of its par."""
        return self.body[self.makers[begin]][1][2] == begin

    def reached_blocks(self):
        """The blocks that can be come to, ascending."""
        return [at for at in range(len(self.body)) if self.reached[at]]


def reached_by(nexts):
    """Which blocks can be come to from block 0."""
    reached = [False for _ in nexts]
    reached[0] = True
    waiting = [0]
    while waiting:
        for after in nexts[waiting.pop()]:
            if not reached[after]:
                reached[after] = True
                waiting.append(after)
    return reached
