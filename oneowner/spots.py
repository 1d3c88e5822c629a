"""
Values of a run as they lie in frames, and the spots in them.

No two values share anything, so each is changed where it lies: a record is the list of its
fields, a variant the list of its tag and its parts, a box the list of what it holds, a vec the
list of its items. A reference is the tuple ("path", frame, local, steps).
"""

NOWHERE = -1


class Ended(Exception):
    """A run ends at once with a word."""

    def __init__(self, word):
        Exception.__init__(self, word)
        self.word = word


class Spot:
    """Where a value lies: in a list at an index, and from the local of a frame on by steps."""

    def __init__(self, frame, local):
        if frame.held[local] is None:
            raise Ended("stuck")
        self.number = frame.number
        self.local = local
        self.steps = []
        self.holder = frame.held
        self.at = local

    def value(self):
        """The value that lies here."""
        return self.holder[self.at]

    def put(self, value):
        """A value comes here instead of the one that lies here."""
        self.holder[self.at] = value

    def walk(self, steps):
        """Goes on to what steps lead to; tells whether there is something."""
        holder = self.holder
        at = self.at
        for step in steps:
            holder = holder[at]
            at = index_in(holder, step)
            if at == NOWHERE:
                return False
        self.holder = holder
        self.at = at
        self.steps.extend(steps)
        return True

    def path(self):
        """The reference to the place that is here."""
        return ("path", self.number, self.local, tuple(self.steps))


def index_in(value, step):
    """The index to which a step leads in the list that is a value, or -1 if nothing is there."""
    word = step[0]
    if word == "field":
        return step[1]
    if word == "deref":
        return 0
    if word == "index":
        return step[1] if step[1] < len(value) else NOWHERE
    return step[2] + 1 if step[1] == value[0] else NOWHERE


def spot_of_path(frames, path):
    """The spot of the place that a reference tells, which must still be there."""
    _, number, local, steps = path
    if number not in frames:
        raise Ended("stuck")
    spot = Spot(frames[number], local)
    if not spot.walk(steps):
        raise Ended("stuck")
    return spot
