"""What a statement or way does to what is known of locals; sets of locals are the bits of integers."""

from oneowner.kinds import REFERENCES
from oneowner.touches import touches


class Effect:
    """
    What one statement or way does.

    touched is what it touches; targets are the locals that get a value, gone those that are taken,
    and used the references that it uses.
    """

    def __init__(self, statement, kinds):
        self.touched = touches(statement, kinds)
        self.targets = bits_of(targets_by(statement))
        self.gone = bits_of(gone_by(statement, self.touched))
        self.used = bits_of(used_by(statement, self.touched, kinds))


def targets_by(statement):
    """The locals that get a value as a whole."""
    word = statement[0]
    if word == "set":
        local, projections = statement[1]
        return () if projections else (local,)
    if word in ("open", "unpack"):
        return statement[-1]
    if word in ("take", "call"):
        return (statement[1],)
    return ()


def gone_by(statement, touched):
    """The locals that are taken; a reference that is dropped is gone, though that touches nothing."""
    if statement[0] in ("drop", "end"):
        return [statement[1]]
    return [place[0] for way, place in touched if way == "take"]


def used_by(statement, touched, kinds):
    """The references that are used: each use but a return's touches what they lend."""
    found = [place[0] for _, place in touched if is_through(place, kinds)]
    if statement[0] == "return" and kinds[0][0] in REFERENCES:
        found.append(0)
    return found


def is_through(place, kinds):
    """True if a place is through a reference."""
    local, projections = place
    return len(projections) > 0 and kinds[local][0] in REFERENCES


def bits_of(numbers):
    """The integer in which just the bits with these numbers are set."""
    bits = 0
    for number in numbers:
        bits = bits | 1 << number
    return bits


def numbers_of(bits):
    """The ascending tuple of the numbers of the bits that are set in an integer."""
    return tuple([number for number in range(bits.bit_length()) if bits >> number & 1])
