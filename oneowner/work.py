"""What the statements of the middle form do on the machine, but for calls and shows."""

from oneowner.cells import Cells, Fault, word_of
from oneowner.kinds import is_copied
from oneowner.stores import LENGTH, NO_ADDRESS, ROOM


class Work(Cells):
    """Does statements in frames."""

    def do_work(self, frame, statement):
        """A statement that is no call and no show."""
        word = statement[0]
        if word == "set":
            self.do_set(frame, statement[1], statement[2])
        elif word == "open":
            number = frame.kinds[statement[1]][1]
            words = self.move_out(frame, statement[1])
            self.fill_parts(frame, statement[2], self.layout.fields[number], words)
        elif word == "unpack":
            self.do_unpack(frame, statement)
        elif word == "push":
            words = self.value_of(frame, statement[2])
            kind, address, mark = self.place_of(frame, statement[1])
            self.do_push(words, kind[1], address, mark)
        elif word == "take":
            self.do_take(frame, statement[1], statement[2])
        elif word == "drop":
            self.drop_local(frame, statement[1])
        else:
            self.drop_local(frame, statement[1])
            self.end_room(frame, statement[1])

    def do_set(self, frame, place, rvalue):
        """A set: the value ahead of the place."""
        words = self.value_of_rvalue(frame, rvalue)
        local, projections = place
        if not projections:
            self.fill(frame, local, words)
            return
        kind, address, mark = self.place_of(frame, place)
        if not is_copied(kind):
            self.drop_value(kind, address, mark)
        self.put_value(words, address, mark)

    def do_unpack(self, frame, statement):
        """An unpack of a variant that must have the tag."""
        _, local, tag, targets = statement
        found = self.room_of(frame, local)
        self.want_tag(found, tag)
        words = self.move_out(frame, local)
        self.fill_parts(frame, targets, self.layout.parts_of_tag(found[0][1], tag), words)

    def do_push(self, words, kind, address, mark):
        """A value comes behind the last item of the vec of a kind that lies at an address."""
        inner, inner_mark = self.read(address, mark)
        many, _ = self.read(address + LENGTH, mark)
        room, _ = self.read(address + ROOM, mark)
        size = len(words)
        if many == room:
            room = max(1, 2 * room)
            old, old_mark = inner, inner_mark
            inner, inner_mark = self.take_block(room * size)
            self.move_items(kind, many, (old, old_mark), (inner, inner_mark))
            if old != NO_ADDRESS:
                self.give_back(old, old_mark)
        self.put_value(words, inner + many * size, inner_mark)
        self.put_value([(inner, inner_mark), word_of(many + 1), word_of(room)], address, mark)

    def move_items(self, kind, many, old, new):
        """So many items are moved from one address to another one, in order."""
        size = self.layout.size_for(kind)
        # Items without words need not be moved, however many they are.
        for at in range(0 if size == 0 else many):
            words = self.moved_from(kind, old[0] + at * size, old[1])
            self.put_value(words, new[0] + at * size, new[1])

    def do_take(self, frame, target, place):
        """A take of the last item of a vec."""
        kind, address, mark = self.place_of(frame, place)
        many, _ = self.read(address + LENGTH, mark)
        if many == 0:
            raise Fault("empty")
        inner, inner_mark = self.read(address, mark)
        at = inner + (many - 1) * self.layout.size_for(kind[1])
        words = self.moved_from(kind[1], at, inner_mark)
        self.put_value([word_of(many - 1)], address + LENGTH, mark)
        self.fill(frame, target, words)
