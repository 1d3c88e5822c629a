"""What the sides of a par do that must not be done beside each other."""

from oneowner.touches import overlap


def are_apart(body, first, second):
    """True if the sides that begin with two blocks may be done beside each other."""
    mine = touched_in_side(body, first)
    theirs = touched_in_side(body, second)
    for local in range(len(body.kinds)):
        for way, place in mine[local]:
            for other_way, other in theirs[local]:
                if (way != "read" or other_way != "read") and overlap(place, other):
                    return False
    return True


def touched_in_side(body, begin):
    """For each local what the side touches of it that begins with a block."""
    found = [[] for _ in body.kinds]
    for block in body.flow.blocks_of_side(begin):
        for effect in body.effects[block]:
            for way, place in effect.touched:
                found[place[0]].append((way, place))
        for statement in body.body[block][0]:
            # For a side the drop and the end of a reference take it, though they touch nothing.
            if statement[0] in ("drop", "end") and body.is_reference(statement[1]):
                found[statement[1]].append(("take", (statement[1], ())))
    return found


def shows_in_side(body, begin, showing):
    """True if the side that begins with a block has a show, or a call of a function that may show."""
    return shows_in_blocks(body, body.flow.blocks_of_side(begin), showing)


def shows_in_blocks(body, blocks, showing):
    """True if a block has a show, or a call of a function that is known to show."""
    for block in blocks:
        for statement in body.body[block][0]:
            if statement[0] == "show" or (statement[0] == "call" and showing[statement[2]]):
                return True
    return False


def may_show(bodies):
    """For each function whether it may show."""
    showing = [False for _ in bodies]
    changed = True
    while changed:
        changed = False
        for at in range(len(bodies)):
            if not showing[at] and shows_in_blocks(bodies[at], bodies[at].flow.reached_blocks(), showing):
                showing[at] = True
                changed = True
    return showing
