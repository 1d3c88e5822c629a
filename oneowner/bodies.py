"""What is known at the points of a function: which locals are there, and what references hold."""

from oneowner.effects import Effect, bits_of, numbers_of
from oneowner.flow import Flow
from oneowner.kinds import REFERENCES
from oneowner.touches import overlap

BEFORE = -1


class Point:
    """What is known at a point: the locals that are surely there and may be there, and the loans of each local."""

    def __init__(self, there, may, held):
        self.there = there
        self.may = may
        self.held = list(held)

    def twin(self):
        """A point of its own where the same is known."""
        return Point(self.there, self.may, self.held)

    def held_by(self, references):
        """The loans that references may hold."""
        found = 0
        for local in numbers_of(references):
            found = found | self.held[local]
        return found

    def join_with(self, other):
        """Becomes what is known if one comes from either point; tells whether that is less than before."""
        there = self.there & other.there
        may = self.may | other.may
        held = [mine | theirs for mine, theirs in zip(self.held, other.held)]
        if there == self.there and may == self.may and held == self.held:
            return False
        self.there = there
        self.may = may
        self.held = held
        return True

    def covers(self, other):
        """True if nothing is told here that is not so at the other point."""
        if self.there & ~other.there or other.may & ~self.may:
            return False
        for mine, theirs in zip(self.held, other.held):
            if theirs & ~mine:
                return False
        return True


class Body:
    """
    A function with what its statements do.

    Loans are numbered in their order, and sets of them are the bits of integers: loans has the
    pairs, numbers their numbers, lent for each loan the pair (way of lending, place), None for
    that of a param, and lent_from for each local the loans whose places have it as their local.
    """

    def __init__(self, functions, at):
        self.functions = functions
        self.params, self.kinds, self.body, self.lenders = functions[at]
        self.flow = Flow(self.body)
        self.effects = [effects_of(block, self.kinds) for block in self.body]
        self.loans = []
        self.lent = []
        self.find_loans()
        self.numbers = {self.loans[number]: number for number in range(len(self.loans))}
        self.lent_from = self.find_lent_from()

    def find_loans(self):
        """Finds all loans, ascending."""
        for param in range(1, self.params + 1):
            if self.is_reference(param):
                self.loans.append((BEFORE, param))
                self.lent.append(None)
        for block in range(len(self.body)):
            statements = self.body[block][0]
            for at in range(len(statements)):
                if statements[at][0] == "set" and statements[at][2][0] == "lend":
                    self.loans.append((block, at))
                    self.lent.append(statements[at][2][1:])

    def find_lent_from(self):
        """For each local the loans whose places have it as their local."""
        found = [0 for _ in self.kinds]
        for number in range(len(self.loans)):
            if self.lent[number] is not None:
                local = self.lent[number][1][0]
                found[local] = found[local] | 1 << number
        return found

    def meets(self, number, way, place):
        """True if a touch of a place must not be while a loan lives."""
        word, lent = self.lent[number]
        return (way != "read" or word == "mut") and overlap(lent, place)

    def is_reference(self, local):
        """True if a local is a reference, False if it is an owner."""
        return self.kinds[local][0] in REFERENCES

    def first_point(self):
        """What is known at the beginning of block 0."""
        there = bits_of(list(range(1, self.params + 1)))
        held = [0 for _ in self.kinds]
        for number in range(len(self.loans)):
            block, local = self.loans[number]
            if block == BEFORE:
                held[local] = 1 << number
        return Point(there, there, held)

    def go_behind(self, point, block, at):
        """A point ahead of a statement becomes the one behind it."""
        effect = self.effects[block][at]
        statement = self.body[block][0][at]
        target = self.reference_got(statement)
        if target is not None:
            point.held[target] = self.loans_got(point.held, statement, (block, at))
        point.there = point.there & ~effect.gone | effect.targets
        point.may = point.may & ~effect.gone | effect.targets

    def reference_got(self, statement):
        """The reference that is a target of a statement, or None."""
        if statement[0] == "set" and not statement[1][1]:
            local = statement[1][0]
        elif statement[0] == "call":
            local = statement[1]
        else:
            return None
        return local if self.is_reference(local) else None

    def loans_got(self, held, statement, pair):
        """What a reference holds that is a target of the statement with this pair of block and index."""
        if statement[0] == "call":
            found = 0
            for param in self.functions[statement[2]][3]:
                found = found | held[local_of_use(statement[3][param - 1])]
            return found
        rvalue = statement[2]
        if rvalue[0] == "lend":
            # An owner holds nothing.
            return 1 << self.numbers[pair] | held[rvalue[2][0]]
        return held[local_of_use(rvalue[1])]

    def point_at_end(self, point, block):
        """What is known ahead of the way of a block, by what is known at its beginning."""
        found = point.twin()
        for at in range(len(self.body[block][0])):
            self.go_behind(found, block, at)
        return found

    def lives_within(self, lives, block):
        """
        For each statement of a block, and its way, the references that are live ahead of it.

        lives has those that are live at the beginning of each block.
        """
        live = 0
        for after in self.flow.nexts[block]:
            live = live | lives[after]
        found = []
        for effect in reversed(self.effects[block]):
            live = live & ~effect.targets | effect.used
            found.append(live)
        found.reverse()
        return found


def bodies_of(program):
    """The body of each function of a program."""
    functions = program[1]
    return [Body(functions, at) for at in range(len(functions))]


def effects_of(block, kinds):
    """What each statement of a block does, and what its way does, the last one."""
    statements, way = block
    return [Effect(statement, kinds) for statement in (*statements, way)]


def local_of_use(operand):
    """The local of an operand that is a reference."""
    return operand[1][0] if operand[0] == "copy" else operand[1]
