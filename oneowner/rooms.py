"""The frames of the machine: the rooms of locals in the memory, and which locals are there."""

from oneowner.kinds import is_copied
from oneowner.memory import Wrong
from oneowner.stores import Store

NO_ROOM = 0


class MachineFrame:
    """
    A frame: for each local its address, the number of its room, 0 if it has none, and whether it is there.

    edge is the address behind the last local.
    """

    def __init__(self, function, address, layout):
        _, self.kinds, self.body, _ = function
        self.addresses = []
        for kind in self.kinds:
            self.addresses.append(address)
            address = address + layout.size_for(kind)
        self.edge = address
        self.rooms = [NO_ROOM for _ in self.kinds]
        self.there = [False for _ in self.kinds]


class Rooms(Store):
    """What happens to locals as a whole."""

    def room_of(self, frame, local):
        """The triple (kind, address, mark) of where a local lies."""
        if frame.rooms[local] == NO_ROOM:
            raise Wrong("unowned")
        return (frame.kinds[local], frame.addresses[local], frame.rooms[local])

    def fill(self, frame, local, words):
        """A local gets a value as a whole."""
        address = frame.addresses[local]
        kind = frame.kinds[local]
        if frame.there[local] and not is_copied(kind):
            self.drop_value(kind, address, frame.rooms[local])
        if frame.rooms[local] == NO_ROOM:
            frame.rooms[local] = self.begin_holding(address, len(words), False)
        self.put_value(words, address, frame.rooms[local])
        frame.there[local] = True

    def fill_parts(self, frame, targets, pairs, words):
        """Locals get the parts of a value that lie at the places of pairs (kind, place), in order."""
        for local, (kind, at) in zip(targets, pairs):
            self.fill(frame, local, words[at:at + self.layout.size_for(kind)])

    def move_out(self, frame, local):
        """The value of a local, which is not there any more."""
        kind, address, mark = self.room_of(frame, local)
        words = self.moved_from(kind, address, mark)
        frame.there[local] = False
        return words

    def drop_local(self, frame, local):
        """A local is dropped, if it is there."""
        if not frame.there[local]:
            return
        kind, address, mark = self.room_of(frame, local)
        self.drop_value(kind, address, mark)
        self.unset(self.layout.size_for(kind), address, mark)
        frame.there[local] = False

    def end_room(self, frame, local):
        """The room of a local ends, if it has one."""
        if frame.rooms[local] != NO_ROOM:
            self.end_holding(frame.rooms[local])
            frame.rooms[local] = NO_ROOM
