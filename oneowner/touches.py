"""What statements and ways touch, and which places overlap."""

from oneowner.kinds import REFERENCES

DEREF = ("deref",)


def touches(statement, kinds):
    """The list of the pairs (way, place) of what a statement or way touches, in order."""
    word = statement[0]
    if word == "set":
        place = statement[1]
        return [*touches_of_rvalue(statement[2], kinds), *touches_of_indexes(place), ("change", place)]
    if word in ("open", "unpack"):
        return [take_of(statement[1]), *[change_of(local) for local in statement[-1]]]
    if word == "push":
        place = statement[1]
        return [*touches_of_operand(statement[2], kinds), *touches_of_indexes(place), ("change", place)]
    if word == "take":
        place = statement[2]
        return [*touches_of_indexes(place), ("change", place), change_of(statement[1])]
    if word in ("drop", "end"):
        return [] if kinds[statement[1]][0] in REFERENCES else [take_of(statement[1])]
    if word == "call":
        return [*touches_of_operands(statement[3], kinds), change_of(statement[1])]
    if word in ("show", "branch"):
        return touches_of_operand(statement[1], kinds)
    if word == "switch":
        return touches_of_place("read", statement[1])
    return [take_of(0)] if word == "return" else []


def touches_of_rvalue(rvalue, kinds):
    """What an rvalue touches: its operands first."""
    word = rvalue[0]
    if word in ("use", "not", "box"):
        return touches_of_operand(rvalue[1], kinds)
    if word == "op":
        return touches_of_operands(rvalue[2:], kinds)
    if word in ("record", "variant"):
        return touches_of_operands(rvalue[-1], kinds)
    if word == "unbox":
        return [take_of(rvalue[1])]
    if word == "lend":
        return touches_of_place("read" if rvalue[1] == "ref" else "change", rvalue[2])
    if word == "len":
        return touches_of_place("read", rvalue[1])
    return []


def touches_of_operands(operands, kinds):
    """What operands touch, from left to right."""
    found = []
    for operand in operands:
        found.extend(touches_of_operand(operand, kinds))
    return found


def touches_of_operand(operand, kinds):
    """What an operand touches: what a reference that is used lends comes ahead of the reference itself."""
    if operand[0] == "copy":
        place = operand[1]
        return [*touches_of_use(place, kinds), *touches_of_place("read", place)]
    if operand[0] == "move":
        return [*touches_of_use((operand[1], ()), kinds), take_of(operand[1])]
    return []


def touches_of_use(place, kinds):
    """What using a place touches besides itself: a whole local that is a reference is used with what it lends."""
    local, projections = place
    if projections or kinds[local][0] not in REFERENCES:
        return []
    return [("read" if kinds[local][0] == "ref" else "change", (local, (DEREF,)))]


def touches_of_place(way, place):
    """What a touch of a place touches: its indexes, then the place."""
    return [*touches_of_indexes(place), (way, place)]


def touches_of_indexes(place):
    """What the operands in the indexes of a place touch: they are ints, so none is a use of a reference."""
    return [("read", within) for within in places_in_order(place)[:-1]]


def places_in_order(place):
    """A place behind those that are copied in its indexes, from left to right, each behind those in its own."""
    found = []
    waiting = [place]
    # Going from the right and from the outside to the inside, as the list is turned around at the end.
    while waiting:
        within = waiting.pop()
        found.append(within)
        waiting.extend([step[1][1] for step in within[1] if step[0] == "index" and step[1][0] == "copy"])
    found.reverse()
    return found


def take_of(local):
    """The touch that takes a whole local."""
    return ("take", (local, ()))


def change_of(local):
    """The touch that changes a whole local."""
    return ("change", (local, ()))


def overlap(one, other):
    """True if two places overlap: the projections of one are a beginning of those of the other."""
    if one[0] != other[0]:
        return False
    for mine, theirs in zip(one[1], other[1]):
        if not may_meet(mine, theirs):
            return False
    return True


def may_meet(one, other):
    """True if two projections count as equal."""
    if one[0] == "index" and other[0] == "index":
        return True
    if one[0] == "part" and other[0] == "part":
        return one[2] == other[2] or one[1] != other[1]
    return one == other
