"""The heap: blocks are given out of a row of words and come back."""

from oneowner.shapes import is_index, is_row

POLICIES = ("first", "best", "next", "bump")
UNITS = (1, 2, 4, 8)
MOST_UNIT = 8
FIRST_ADDRESS = 1
NO_PIECE = -1


def is_allocator(thing):
    """True if the thing is a pair of a policy and a unit."""
    if not is_row(thing, 2, 2):
        return False
    return thing[0] in POLICIES and is_index(thing[1], MOST_UNIT + 1) and thing[1] in UNITS


class Heap:
    """
    The words with the addresses from 1 on.

    given has the sizes of the blocks by their addresses, gaps the pieces, ascending pairs
    (address, size), height the top, and behind_last the end of the block that was given out last.
    """

    def __init__(self, allocator):
        self.policy, self.unit = allocator
        self.given = {}
        self.gaps = []
        self.height = FIRST_ADDRESS
        self.behind_last = FIRST_ADDRESS

    def take(self, many):
        """Gives out a block for so many words; returns its address."""
        size = self.size_for(many)
        at = self.gap_for(size)
        if at == NO_PIECE:
            address = self.height
            self.height = address + size
        else:
            address = self.cut(at, size)
        self.given[address] = size
        self.behind_last = address + size
        return address

    def size_for(self, many):
        """The size of the block that is given out for so many words."""
        units = (max(many, 1) + self.unit - 1) // self.unit
        return units * self.unit

    def gap_for(self, size):
        """The index of the piece from which a block of a size is taken, or -1 for none."""
        if self.policy == "bump":
            return NO_PIECE
        fitting = [at for at in range(len(self.gaps)) if self.gaps[at][1] >= size]
        if not fitting:
            return NO_PIECE
        if self.policy == "best":
            return self.smallest_gap(fitting)
        if self.policy == "next":
            for at in fitting:
                if self.gaps[at][0] >= self.behind_last:
                    return at
        return fitting[0]

    def smallest_gap(self, fitting):
        """The index of the smallest of some pieces, the first one of several."""
        found = fitting[0]
        for at in fitting:
            if self.gaps[at][1] < self.gaps[found][1]:
                found = at
        return found

    def cut(self, at, size):
        """Takes so many words from the beginning of a piece; returns the address of the first one."""
        address, many = self.gaps[at]
        if many > size:
            self.gaps[at] = (address + size, many - size)
        else:
            del self.gaps[at]
        return address

    def give(self, address):
        """A block comes back; tells whether one begins at the address."""
        if address not in self.given:
            return False
        size = self.given[address]
        del self.given[address]
        at = self.gap_behind(address)
        self.gaps.insert(at, (address, size))
        self.unite(at)
        if at > 0:
            self.unite(at - 1)
        if self.policy != "bump":
            self.lower_top()
        return True

    def gap_behind(self, address):
        """The index of the first piece behind an address, or how many pieces there are."""
        low = 0
        high = len(self.gaps)
        while low < high:
            middle = (low + high) // 2
            if self.gaps[middle][0] < address:
                low = middle + 1
            else:
                high = middle
        return low

    def unite(self, at):
        """A piece and the next one become one if they touch."""
        if at + 1 == len(self.gaps):
            return
        address, size = self.gaps[at]
        other, more = self.gaps[at + 1]
        if address + size == other:
            self.gaps[at:at + 2] = [(address, size + more)]

    def lower_top(self):
        """The last piece, if it ends at the top, is no piece any more."""
        address, size = self.gaps[-1]
        if address + size == self.height:
            self.height = address
            del self.gaps[-1]

    def blocks(self):
        """The pairs (address, size) of the blocks, ascending."""
        return tuple(sorted(self.given.items()))

    def pieces(self):
        """The pairs (address, size) of the pieces, ascending."""
        return tuple(self.gaps)

    def top(self):
        """The top: no word from there on has a block."""
        return self.height

    def size(self, address):
        """The size of the block that begins at an address, 0 if none does."""
        return self.given.get(address, 0)
