"""The judge of programs of the middle form."""

from oneowner.bodies import bodies_of
from oneowner.effects import is_through, numbers_of, targets_by
from oneowner.errors import Refused
from oneowner.kinds import is_copied
from oneowner.papers import best_lives, best_points, lives_of_pages, points_of_pages, wrong_page
from oneowner.sides import are_apart, may_show, shows_in_side

FORM_INDEX = -1


class Judge:
    """
    Looks at a function with what a paper that holds for it tells.

    points has what is known at the beginning of each block, lives the references that are live
    there, and showing tells of each function whether it may show.
    """

    def __init__(self, body, points, lives, showing):
        self.facts = body
        self.points = points
        self.lives = lives
        self.showing = showing

    def first_wrong(self):
        """The triple (block, index, word) of the first statement that is refused, or None."""
        for block in self.facts.flow.reached_blocks():
            lives = self.facts.lives_within(self.lives, block)
            more = self.loans_of_first_sides(block)
            point = self.points[block].twin()
            for at in range(len(lives)):
                word = self.word_for(block, at, point, point.held_by(lives[at]) | more)
                if word is not None:
                    return (block, at, word)
                if at + 1 < len(lives):
                    self.facts.go_behind(point, block, at)
        return None

    def loans_of_first_sides(self, block):
        """The loans that count in a block because the first sides of pars live on them while it is done."""
        found = 0
        for par in self.facts.flow.pars_ahead(block):
            first = self.facts.body[par][1][1]
            point = self.facts.point_at_end(self.points[par], par)
            found = found | point.held_by(self.lives[first])
        return found

    def word_for(self, block, at, point, loans):
        """The word for which a statement or way is refused, or None; loans are those that live references hold."""
        statements, way = self.facts.body[block]
        is_way = at == len(statements)
        effect = self.facts.effects[block][at]
        if not self.is_all_there(way if is_way else statements[at], effect, point.there):
            return "there"
        if self.changes_fixed(effect):
            return "fixed"
        if self.touches_lent(effect, loans):
            return "lent"
        return self.word_for_way(way, point) if is_way else None

    def is_all_there(self, statement, effect, there):
        """True if the locals are there that a statement or way needs."""
        if statement[0] in ("drop", "end"):
            return True
        # The changes of the targets come last.
        for way, place in effect.touched[:len(effect.touched) - len(targets_by(statement))]:
            local = place[0]
            if not there >> local & 1:
                return False
            if way == "take":
                there = there & ~(1 << local)
        return True

    def changes_fixed(self, effect):
        """True if something is changed through a reference of the kind ref."""
        kinds = self.facts.kinds
        for way, place in effect.touched:
            if way == "change" and is_through(place, kinds) and kinds[place[0]][0] == "ref":
                return True
        return False

    def touches_lent(self, effect, loans):
        """True if what is touched is lent by one of the loans, and one of both is for changing."""
        for way, place in effect.touched:
            local, projections = place
            # Taking or changing a reference itself is no touch of what it lends.
            if way == "read" or projections or not self.facts.is_reference(local):
                for number in numbers_of(loans & self.facts.lent_from[local]):
                    if self.facts.meets(number, way, place):
                        return True
        return False

    def word_for_way(self, way, point):
        """The word for which a way is refused whatever it touches, or None."""
        if way[0] == "return":
            return self.word_for_return(point)
        if way[0] == "par":
            return self.word_for_par(way)
        return None

    def word_for_return(self, point):
        """The word for which a return is refused whatever it touches, or None."""
        for number in numbers_of(point.held[0]):
            if self.must_stay(number):
                return "result"
        for local in numbers_of(point.may):
            kind = self.facts.kinds[local]
            if local != 0 and not self.facts.is_reference(local) and not is_copied(kind):
                return "kept"
        return None

    def must_stay(self, number):
        """True if the result must not hold a loan."""
        if self.facts.lent[number] is None:
            return self.facts.loans[number][1] not in self.facts.lenders
        return not self.facts.is_reference(self.facts.lent[number][1][0])

    def word_for_par(self, way):
        """The word for which a par is refused, or None."""
        _, first, second, _ = way
        if not self.facts.flow.reached[second]:
            return "join"
        if not are_apart(self.facts, first, second):
            return "apart"
        if shows_in_side(self.facts, first, self.showing) or shows_in_side(self.facts, second, self.showing):
            return "show"
        return None


def judge(program, paper):
    """Raises Refused for the first statement or way that the judge does not take with a paper."""
    bodies = bodies_of(program)
    wrong = wrong_page(bodies, paper)
    if wrong is not None:
        raise Refused(wrong[0], wrong[1], FORM_INDEX, "paper")
    points = [points_of_pages(body, pages) for body, pages in zip(bodies, paper)]
    refuse_first_wrong(bodies, points, [lives_of_pages(pages) for pages in paper])


def judge_with_best(program):
    """Raises Refused just as judge does with the best paper."""
    # The best paper holds, so it is neither written out nor looked through.
    bodies = bodies_of(program)
    refuse_first_wrong(bodies, [best_points(body) for body in bodies], [best_lives(body) for body in bodies])


def refuse_first_wrong(bodies, points, lives):
    """Raises Refused for the first statement or way that is refused with the points and lives of each function."""
    showing = may_show(bodies)
    for at in range(len(bodies)):
        found = Judge(bodies[at], points[at], lives[at], showing).first_wrong()
        if found is not None:
            raise Refused(at, found[0], found[1], found[2])


def taken(program):
    """True if the judge takes a program with its best paper."""
    try:
        judge_with_best(program)
    except Refused:
        return False
    return True
