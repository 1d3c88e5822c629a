"""Papers: what is there, what may be there, what is lent and what is live at the beginning of each block."""

from oneowner.bodies import Point, bodies_of
from oneowner.effects import bits_of, numbers_of
from oneowner.shapes import is_index, is_row

NOTHING = ((), (), (), ())


def best_paper(program):
    """The best paper: a tuple with one for each function."""
    return tuple([best_of_function(body) for body in bodies_of(program)])


def best_of_function(body):
    """The best paper for a function."""
    points = best_points(body)
    lives = best_lives(body)
    return tuple([page_of(body, point, live) for point, live in zip(points, lives)])


def best_points(body):
    """What is known at the beginning of each block, None for one that cannot be come to."""
    points = [None for _ in body.body]
    points[0] = body.first_point()
    waiting = [0]
    while waiting:
        block = waiting.pop()
        behind = body.point_at_end(points[block], block)
        for after in body.flow.nexts[block]:
            if points[after] is None:
                points[after] = behind.twin()
                waiting.append(after)
            elif points[after].join_with(behind):
                waiting.append(after)
    return points


def best_lives(body):
    """The references that are live at the beginning of each block, none for one that cannot be come to."""
    lives = [0 for _ in body.body]
    blocks = body.flow.reached_blocks()
    changed = True
    while changed:
        changed = False
        for block in reversed(blocks):
            live = body.lives_within(lives, block)[0]
            if live != lives[block]:
                lives[block] = live
                changed = True
    return lives


def page_of(body, point, live):
    """The quadruple of a block."""
    if point is None:
        return NOTHING
    held = []
    for local in range(len(body.kinds)):
        if point.held[local]:
            held.append((local, tuple([body.loans[number] for number in numbers_of(point.held[local])])))
    return (numbers_of(point.there), numbers_of(point.may), tuple(held), numbers_of(live))


def holds(program, paper):
    """None if the paper has the form and holds, otherwise the first function and block for which it does not."""
    return wrong_page(bodies_of(program), paper)


def wrong_page(bodies, paper):
    """None if a paper has the form and holds for bodies, otherwise the first function and block as for holds."""
    if not is_row(paper, len(bodies), len(bodies)):
        return (0, 0)
    for at in range(len(bodies)):
        block = wrong_block(bodies[at], paper[at])
        if block is not None:
            return (at, block)
    return None


def wrong_block(body, thing):
    """The first block for which a thing is not the paper of a function, 0 if it has not the form; or None."""
    if not is_paper(body, thing):
        return 0
    points = points_of_pages(body, thing)
    lives = lives_of_pages(thing)
    arriving = points_arriving(body, points)
    for block in body.flow.reached_blocks():
        for point in arriving[block]:
            if not points[block].covers(point):
                return block
        if body.lives_within(lives, block)[0] & ~lives[block]:
            return block
    return None


def points_arriving(body, points):
    """For each block what is known on each way to its beginning."""
    found = [[] for _ in points]
    found[0].append(body.first_point())
    for block in body.flow.reached_blocks():
        behind = body.point_at_end(points[block], block)
        for after in body.flow.nexts[block]:
            found[after].append(behind)
    return found


def points_of_pages(body, pages):
    """What the paper of a function tells that is known at the beginning of each block."""
    return [point_of_page(body, page) for page in pages]


def lives_of_pages(pages):
    """The references of which the paper of a function tells that they are live at the beginning of each block."""
    return [bits_of(page[3]) for page in pages]


def point_of_page(body, page):
    """What the quadruple of a block tells, without the pairs that are no loans."""
    held = [0 for _ in body.kinds]
    for local, pairs in page[2]:
        held[local] = bits_of([body.numbers[pair] for pair in pairs if pair in body.numbers])
    return Point(bits_of(page[0]), bits_of(page[1]), held)


def is_paper(body, thing):
    """True if the thing has the form of a paper for a function."""
    if not is_row(thing, len(body.body), len(body.body)):
        return False
    for page in thing:
        if not is_page(body, page):
            return False
    return True


def is_page(body, thing):
    """True if the thing has the form of the quadruple of a block."""
    if not is_row(thing, 4, 4):
        return False
    there, may, held, live = thing
    return are_locals(body, there) and are_locals(body, may) and is_held(body, held) and are_references(body, live)


def are_locals(body, things):
    """True if the things are an ascending tuple of locals."""
    if not isinstance(things, tuple):
        return False
    last = -1
    for thing in things:
        if not is_index(thing, len(body.kinds)) or thing <= last:
            return False
        last = thing
    return True


def are_references(body, things):
    """True if the things are an ascending tuple of references."""
    if not are_locals(body, things):
        return False
    for local in things:
        if not body.is_reference(local):
            return False
    return True


def is_held(body, things):
    """True if the things are pairs of references, ascending, and of loans."""
    if not isinstance(things, tuple):
        return False
    for thing in things:
        if not is_row(thing, 2, 2) or not are_loans(thing[1]):
            return False
    return are_references(body, tuple([thing[0] for thing in things]))


def are_loans(things):
    """True if the things are an ascending tuple of pairs of integers, at least one."""
    if not isinstance(things, tuple) or not things:
        return False
    last = None
    for thing in things:
        if not is_pair(thing) or (last is not None and thing <= last):
            return False
        last = thing
    return True


def is_pair(thing):
    """True if the thing is a pair of integers; a pair that is no loan is one, too."""
    return is_row(thing, 2, 2) and is_integer(thing[0]) and is_integer(thing[1])


def is_integer(thing):
    """True if the thing is an integer; a truth is none."""
    return isinstance(thing, int) and not isinstance(thing, bool)
