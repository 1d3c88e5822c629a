"""The order of threads: which one does a step, and which accesses are unordered."""


def unordered(first, second):
    """True if neither of two accesses with these places is surely done before the other."""
    for one, other in zip(first, second):
        if one != other:
            return one[0] == other[0]
    return False


def picked(schedule, at, many):
    """Which of so many threads does the step with a number."""
    return schedule[at] % many if at < len(schedule) else 0


class Call:
    """Where a thread goes on in a frame; target is the local that gets the result, in the frame of the call below."""

    def __init__(self, frame, block, target):
        self.frame = frame
        self.block = block
        self.at = 0
        self.target = target

    def go(self, block):
        """Goes on with the beginning of a block."""
        self.block = block
        self.at = 0


class Thread:
    """
    A thread: its calls, the one at work last; the first one of a side works in the frame of its waiting thread.

    place is the row of the pairs (par, side) within which it works; below has how many frames stand
    below its calls, edge the address behind its last frame; running has how many of its sides have
    not ended, and fault the fault of its second side, None without one.
    """

    def __init__(self, place, waiting, call, edge):
        self.place = place
        self.waiting = waiting
        self.calls = [call]
        self.below = 0 if waiting is None else waiting.frames_standing() - 1
        self.edge = edge
        self.running = 0
        self.fault = None

    def frames_standing(self):
        """How many frames stand one above the other, with those of the threads that wait for this one."""
        return self.below + len(self.calls)

    def is_second_side(self):
        """True if this is the second side of a par."""
        return self.place[-1][1] == 1
