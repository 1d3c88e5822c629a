"""What places, operands and rvalues are on the machine."""

from oneowner.frames import is_index_by_place, value_of_op
from oneowner.rooms import Rooms
from oneowner.stores import LENGTH, NO_ADDRESS


class Fault(Exception):
    """A fault happens in a thread, as a word tells."""

    def __init__(self, word):
        Exception.__init__(self, word)
        self.word = word


class Cells(Rooms):
    """Finds places and evaluates what stands in statements; where something lies is a triple (kind, address, mark)."""

    def place_of(self, frame, place):
        """Where a place lies."""
        found = self.room_of(frame, place[0])
        left = place[1]
        # Places may stand within the indexes of places far deeper than calls: those that are begun wait.
        begun = []
        while left or begun:
            if not left:
                number, _ = self.read(found[1], found[2])
                found, left = begun.pop()
                found = self.item_at(found, number)
            elif is_index_by_place(left[0]):
                begun.append((found, left[1:]))
                within = left[0][1][1]
                found = self.room_of(frame, within[0])
                left = within[1]
            else:
                found = self.place_behind(found, left[0])
                left = left[1:]
        return found

    def place_behind(self, found, projection):
        """Where a projection leads from a place; an index is a number."""
        kind, address, mark = found
        word = projection[0]
        if word == "field":
            within, at = self.layout.fields[kind[1]][projection[1]]
            return (within, address + at, mark)
        if word == "deref":
            inner, inner_mark = self.read(address, mark)
            return (kind[1], inner, inner_mark)
        if word == "index":
            return self.item_at(found, projection[1][1])
        self.want_tag(found, projection[1])
        within, at = self.layout.parts[kind[1]][projection[1]][projection[2]]
        return (within, address + at, mark)

    def item_at(self, found, number):
        """Where the item with a number lies of the vec that lies at a place."""
        kind, address, mark = found
        inner, inner_mark = self.read(address, mark)
        many, _ = self.read(address + LENGTH, mark)
        if number >= many:
            raise Fault("bound")
        return (kind[1], inner + number * self.layout.size_for(kind[1]), inner_mark)

    def want_tag(self, found, tag):
        """The variant that lies at a place must have a tag."""
        word, _ = self.read(found[1], found[2])
        if word != tag:
            raise Fault("tag")

    def value_of(self, frame, operand):
        """The value of an operand."""
        if operand[0] == "copy":
            kind, address, mark = self.place_of(frame, operand[1])
            return self.value_at(kind, address, mark)
        if operand[0] == "move":
            return self.move_out(frame, operand[1])
        return [word_of(operand[1])]

    def number_of(self, frame, operand):
        """The number that an operand is."""
        return self.value_of(frame, operand)[0][0]

    def values_of(self, frame, operands):
        """The values of operands, from left to right."""
        return [self.value_of(frame, operand) for operand in operands]

    def value_of_rvalue(self, frame, rvalue):
        """The value of an rvalue."""
        word = rvalue[0]
        if word == "use":
            return self.value_of(frame, rvalue[1])
        if word == "op":
            one, other = [self.number_of(frame, operand) for operand in rvalue[2:]]
            return [word_of(value_of_op(rvalue[1], one, other))]
        if word == "not":
            return [word_of(self.number_of(frame, rvalue[1]) == 0)]
        if word == "record":
            return joined(self.values_of(frame, rvalue[2]))
        if word == "variant":
            return self.variant_of(rvalue, joined(self.values_of(frame, rvalue[3])))
        if word == "box":
            return self.box_of(self.value_of(frame, rvalue[1]))
        if word == "unbox":
            return self.unbox(frame, rvalue[1])
        if word == "lend":
            _, address, mark = self.place_of(frame, rvalue[2])
            return [(address, mark)]
        if word == "len":
            _, address, mark = self.place_of(frame, rvalue[1])
            return [word_of(self.read(address + LENGTH, mark)[0])]
        return [word_of(NO_ADDRESS), word_of(0), word_of(0)]

    def variant_of(self, rvalue, words):
        """The value of a variant whose parts are these words."""
        unused = self.layout.size_for(("variant", rvalue[1])) - 1 - len(words)
        return [word_of(rvalue[2]), *words, *[None for _ in range(unused)]]

    def box_of(self, words):
        """The value of a new box that holds a value."""
        address, mark = self.take_block(len(words))
        self.put_value(words, address, mark)
        return [(address, mark)]

    def unbox(self, frame, local):
        """What the box holds that is a local, which is gone with its block."""
        kind, address, mark = self.room_of(frame, local)
        inner, inner_mark = self.read(address, mark)
        words = self.value_at(kind[1], inner, inner_mark)
        self.give_back(inner, inner_mark)
        self.unset(1, address, mark)
        frame.there[local] = False
        return words


def word_of(value):
    """The word of a number or truth, which is no address."""
    return (int(value), 0)


def joined(values):
    """The words of values that lie one behind the other."""
    return [word for words in values for word in words]
