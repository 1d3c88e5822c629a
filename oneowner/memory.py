"""The memory of the machine: cells, their holdings, and what is wrong with accesses."""

from oneowner.heap import Heap
from oneowner.threads import unordered


class Wrong(Exception):
    """Something is wrong with a run, as a word tells; the run ends with it at once."""

    def __init__(self, word):
        Exception.__init__(self, word)
        self.word = word


class Cell:
    """
    A word that has been used since its holding began.

    word is the pair (number, mark), None while the cell is not set; wrote is the place of its last
    write, and readers are places of readings since then.
    """

    def __init__(self, wrote):
        self.word = None
        self.wrote = wrote
        self.readers = []


class Holding:
    """
    Owned cells with addresses one behind the other.

    begun is the place of the access with which it began; cells has those that were used since then.
    """

    def __init__(self, address, many, begun, is_block):
        self.address = address
        self.many = many
        self.begun = begun
        self.is_block = is_block
        self.cells = {}


class Memory:
    """The cells, by their holdings; place is that of the thread that does the step."""

    def __init__(self, allocator):
        self.heap = Heap(allocator)
        self.holdings = {}
        self.begun = 0
        self.place = ()

    def begin_holding(self, address, many, is_block):
        """A holding begins; returns its number."""
        self.begun = self.begun + 1
        self.holdings[self.begun] = Holding(address, many, self.place, is_block)
        return self.begun

    def end_holding(self, number):
        """A holding is over, which is a write of all its cells."""
        holding = self.holdings[number]
        for cell in holding.cells.values():
            self.check_write(cell)
        # Cells that were not used were last written when the holding began.
        if len(holding.cells) < holding.many and unordered(holding.begun, self.place):
            raise Wrong("race")
        del self.holdings[number]

    def cell_at(self, address, mark):
        """The cell under an address with a mark."""
        if mark not in self.holdings:
            raise Wrong("unowned")
        holding = self.holdings[mark]
        at = address - holding.address
        if not 0 <= at < holding.many:
            raise Wrong("unowned")
        if at not in holding.cells:
            holding.cells[at] = Cell(holding.begun)
        return holding.cells[at]

    def read(self, address, mark):
        """The word of a cell."""
        cell = self.cell_at(address, mark)
        if cell.word is None:
            raise Wrong("unset")
        if unordered(cell.wrote, self.place):
            raise Wrong("race")
        if not cell.readers or cell.readers[-1] != self.place:
            # A reading that is ordered with this one tells nothing more: a later write that is unordered with
            # it is unordered with this one, too.
            cell.readers = [reader for reader in cell.readers if unordered(reader, self.place)]
            cell.readers.append(self.place)
        return cell.word

    def write(self, address, mark, word):
        """A cell gets a word; with None it is not set any more."""
        cell = self.cell_at(address, mark)
        self.check_write(cell)
        cell.word = word
        cell.wrote = self.place
        cell.readers = []

    def check_write(self, cell):
        """A cell may be written at this place."""
        if unordered(cell.wrote, self.place):
            raise Wrong("race")
        for reader in cell.readers:
            if unordered(reader, self.place):
                raise Wrong("race")

    def take_block(self, many):
        """A block of the heap for so many words; returns its address and its mark."""
        address = self.heap.take(many)
        return (address, self.begin_holding(address, self.heap.size(address), True))

    def give_back(self, address, mark):
        """A block of the heap is given back."""
        if mark not in self.holdings:
            raise Wrong("free")
        holding = self.holdings[mark]
        if not holding.is_block or holding.address != address:
            raise Wrong("free")
        self.end_holding(mark)
        self.heap.give(address)
