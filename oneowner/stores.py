"""Values in the memory of the machine: they are lists of words, None for those that are not used."""

from oneowner.layout import Layout
from oneowner.memory import Memory

NO_ADDRESS = 0
# The places of the words of a vec; its address is the first one.
LENGTH = 1
ROOM = 2


class Store(Memory):
    """The memory with the values of the kinds of a book in it."""

    def __init__(self, book, allocator):
        Memory.__init__(self, allocator)
        self.layout = Layout(book)

    def value_at(self, kind, address, mark):
        """The value of a kind that lies at an address; it is read from its first word to its last one."""
        words = [None for _ in range(self.layout.size_for(kind))]
        waiting = [(kind, 0)]
        while waiting:
            within, at = waiting.pop()
            if within[0] == "record":
                self.put_off(waiting, self.layout.fields[within[1]], at)
            elif within[0] == "variant":
                words[at] = self.read(address + at, mark)
                self.put_off(waiting, self.layout.parts_of_tag(within[1], words[at][0]), at)
            else:
                for more in range(self.layout.size_for(within)):
                    words[at + more] = self.read(address + at + more, mark)
        return words

    def put_off(self, waiting, pairs, place):
        """What lies in a value at a place waits, so that the first one comes next."""
        for kind, at in reversed(pairs):
            waiting.append((kind, place + at))

    def put_value(self, words, address, mark):
        """A value comes to an address."""
        for at in range(len(words)):
            self.write(address + at, mark, words[at])

    def unset(self, many, address, mark):
        """So many cells are not set any more."""
        for at in range(many):
            self.write(address + at, mark, None)

    def moved_from(self, kind, address, mark):
        """The value that lies at an address, whose cells are not set behind it."""
        words = self.value_at(kind, address, mark)
        self.unset(len(words), address, mark)
        return words

    def drop_value(self, kind, address, mark):
        """Gives back the blocks of the value of a kind that lies at an address."""
        # Values may be nested far deeper than calls, so what is left to do waits, the next thing last.
        waiting = [("value", kind, address, mark)]
        while waiting:
            task = waiting.pop()
            if task[0] == "block":
                self.give_back(task[1], task[2])
            elif task[0] == "items":
                waiting.extend(self.tasks_for_items(task))
            else:
                waiting.extend(self.tasks_for_value(task[1], task[2], task[3]))

    def tasks_for_value(self, kind, address, mark):
        """What is to be done to drop a value, the first thing last."""
        if not self.layout.may_have_blocks(kind):
            return []
        if kind[0] == "record":
            return tasks_for_pairs(self.layout.fields[kind[1]], address, mark)
        if kind[0] == "vec":
            inner, inner_mark = self.read(address, mark)
            many, _ = self.read(address + LENGTH, mark)
            block = [] if inner == NO_ADDRESS else [("block", inner, inner_mark)]
            return [*block, ("items", kind[1], inner, inner_mark, many)]
        word, word_mark = self.read(address, mark)
        if kind[0] == "box":
            return [("block", word, word_mark), ("value", kind[1], word, word_mark)]
        return tasks_for_pairs(self.layout.parts_of_tag(kind[1], word), address, mark)

    def tasks_for_items(self, task):
        """What is to be done to drop items that lie one behind the other, the first thing last."""
        _, kind, address, mark, many = task
        if many == 0 or not self.layout.may_have_blocks(kind):
            return []
        rest = ("items", kind, address + self.layout.size_for(kind), mark, many - 1)
        return [rest, ("value", kind, address, mark)]


def tasks_for_pairs(pairs, address, mark):
    """What is to be done to drop fields or parts, the first one last."""
    return [("value", kind, address + at, mark) for kind, at in reversed(pairs)]
