"""The rows of expressions and places."""

from oneowner.draft import Draft
from oneowner.kinds import is_copied
from oneowner.typed_trees import kind_of_expr


class ValueLowering(Draft):
    """Makes the rows that a value or a place needs ahead of it."""

    def lower_value(self, expr):
        """The operand for an expression, behind the rows that make it."""
        if expr[0] in ("num", "truth"):
            return expr
        if expr[0] == "call":
            local = self.lower_call(expr)
        else:
            rvalue = self.lower_rvalue(expr)
            local = self.new_local(kind_of_expr(expr))
            self.put(("set", (local, ()), rvalue))
        if is_copied(self.kinds[local]):
            return ("copy", (local, ()))
        return ("move", local)

    def lower_to_local(self, expr):
        """The local that has the value of an expression, which is neither a number nor a truth."""
        return local_of(self.lower_value(expr))

    def lower_values(self, exprs):
        """The operands for expressions, from left to right."""
        return tuple([self.lower_value(expr) for expr in exprs])

    def lower_call(self, expr):
        """The local that a call gives its result to."""
        _, function, exprs, kind = expr
        values = self.lower_values(exprs)
        local = self.new_local(kind)
        self.put(("call", local, function, values))
        return local

    def lower_rvalue(self, expr):
        """What is set for an expression, behind the rows of its parts."""
        word = expr[0]
        if word == "copy":
            return ("use", ("copy", self.lower_place(expr[1])))
        if word == "move":
            return ("use", ("move", expr[1] + 1))
        if word == "again":
            return ("lend", "mut", (expr[1] + 1, (("deref",),)))
        if word == "lend":
            return ("lend", expr[1], self.lower_place(expr[2]))
        if word == "op":
            return ("op", expr[1], *self.lower_values(expr[2:]))
        if word == "not":
            return ("not", self.lower_value(expr[1]))
        if word == "box":
            # A typed box tells its own kind, a row of a box the kind of what it holds.
            return ("box", self.lower_value(expr[1]), expr[2][1])
        if word == "unbox":
            return ("unbox", self.lower_to_local(expr[1]))
        if word == "vec":
            return ("vec", expr[1][1])
        if word == "len":
            return ("len", self.lower_place(expr[1]))
        return (*expr[:-1], self.lower_values(expr[-1]))

    def lower_place(self, place):
        """A place with the operands for its indexes."""
        number, projections = place
        return (number + 1, tuple([self.lower_projection(projection) for projection in projections]))

    def lower_projection(self, projection):
        """A projection, with an operand if it is an index."""
        if projection[0] == "index":
            return ("index", self.lower_value(projection[1]))
        return projection


def local_of(operand):
    """The local of an operand that is a whole local, copied or moved."""
    if operand[0] == "copy":
        return operand[1][0]
    return operand[1]
