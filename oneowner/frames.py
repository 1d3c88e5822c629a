"""The frames of a run, and what operands and places mean in them."""

from oneowner.shapes import WORDS
from oneowner.spots import Ended, Spot, spot_of_path

MOST_FRAMES = 100
FAULTS = {"index": "bound", "part": "tag"}


class Frame:
    """
    A call: what its locals hold, None if they are not there, and where it goes on.

    pars has the blocks to which the next joins lead, the next one last; target is the local of
    the caller that gets the result.
    """

    def __init__(self, number, function, values, target):
        self.number = number
        self.body = function[2]
        self.held = [None, *values, *[None for _ in function[1][len(values) + 1:]]]
        self.target = target
        self.block = 0
        self.at = 0
        self.pars = []

    def go(self, block):
        """Goes on with the beginning of a block."""
        self.block = block
        self.at = 0


class Frames:
    """The frames of a run, by their numbers and one above the other."""

    def __init__(self, functions):
        self.functions = functions
        self.known = {}
        self.stack = []
        self.many = 0

    def begin_call(self, function, values, target):
        """A frame comes on the stack."""
        if len(self.stack) == MOST_FRAMES:
            raise Ended("steps")
        frame = Frame(self.many, self.functions[function], values, target)
        self.many += 1
        self.known[frame.number] = frame
        self.stack.append(frame)

    def end_call(self):
        """The frame on top ends; returns the value of its local 0."""
        frame = self.stack[-1]
        value = self.move_out(frame, 0)
        self.stack.pop()
        del self.known[frame.number]
        return value

    def move_out(self, frame, local):
        """The value of a local, which is not there any more."""
        value = frame.held[local]
        if value is None:
            raise Ended("stuck")
        frame.held[local] = None
        return value

    def spot_of(self, frame, place):
        """The spot of a place."""
        spot = Spot(frame, place[0])
        left = place[1]
        # Places may stand within the indexes of places far deeper than calls: those that are begun wait.
        begun = []
        while left or begun:
            if not left:
                number = spot.value()
                spot, left = begun.pop()
                enter(spot, ("index", number))
            elif is_index_by_place(left[0]):
                begun.append((spot, left[1:]))
                within = left[0][1][1]
                spot = Spot(frame, within[0])
                left = within[1]
            else:
                spot = self.spot_behind(spot, left[0])
                left = left[1:]
        return spot

    def spot_behind(self, spot, projection):
        """The spot to which a projection goes from one; an index is a number."""
        # Of all values references alone are tuples.
        if projection[0] == "deref" and isinstance(spot.value(), tuple):
            return spot_of_path(self.known, spot.value())
        if projection[0] == "index":
            enter(spot, ("index", projection[1][1]))
        else:
            enter(spot, projection)
        return spot

    def value_of(self, frame, operand):
        """The value of an operand."""
        if operand[0] == "copy":
            return self.spot_of(frame, operand[1]).value()
        if operand[0] == "move":
            return self.move_out(frame, operand[1])
        return operand[1]

    def values_of(self, frame, operands):
        """The values of operands, from left to right."""
        return [self.value_of(frame, operand) for operand in operands]

    def value_of_rvalue(self, frame, rvalue):
        """The value of an rvalue."""
        word = rvalue[0]
        if word == "use":
            return self.value_of(frame, rvalue[1])
        if word == "op":
            one, other = self.values_of(frame, rvalue[2:])
            return value_of_op(rvalue[1], one, other)
        if word == "not":
            return not self.value_of(frame, rvalue[1])
        if word == "record":
            return self.values_of(frame, rvalue[2])
        if word == "variant":
            return [rvalue[2], *self.values_of(frame, rvalue[3])]
        if word == "box":
            return [self.value_of(frame, rvalue[1])]
        if word == "unbox":
            return self.move_out(frame, rvalue[1])[0]
        if word == "lend":
            return self.spot_of(frame, rvalue[2]).path()
        if word == "len":
            return len(self.spot_of(frame, rvalue[1]).value())
        return []


def is_index_by_place(projection):
    """True if a projection is an index that is copied from a place."""
    return projection[0] == "index" and projection[1][0] == "copy"


def enter(spot, step):
    """A spot goes on to what a step leads to; it is a fault if that is not there."""
    if not spot.walk((step,)):
        raise Ended(FAULTS[step[0]])


def value_of_op(sign, one, other):
    """What an operator gives."""
    if sign == "==":
        return one == other
    if sign == "<":
        return one < other
    if sign == "+":
        return (one + other) % WORDS
    if sign == "-":
        return (one - other) % WORDS
    return (one * other) % WORDS
