"""The typed trees of places and expressions."""

from oneowner.errors import NotWhole, UnknownName, WrongCount, WrongKind
from oneowner.expressions import PLACES
from oneowner.kinds import REFERENCES, is_copied
from oneowner.scope import Scope
from oneowner.typed_trees import kind_of_expr


class ExpressionTyper(Scope):
    """Gives places and expressions their kinds, where the names of a scope count."""

    def typed_place(self, tree):
        """A place and its kind."""
        if tree[0] == "name":
            number = self.number_of(tree[1])
            return ((number, ()), self.kinds[number])
        place, kind = self.typed_place(tree[1])
        if tree[0] == "deref":
            if kind[0] not in ("box", "ref", "mut"):
                raise WrongKind("*")
            return (behind(place, ("deref",)), kind[1])
        if tree[0] == "field":
            at = self.field_of(kind, tree[2])
            return (behind(place, ("field", at)), self.declarations.book[0][kind[1]][at])
        index = self.typed_expr(tree[2])
        if kind[0] != "vec" or kind_of_expr(index) != ("int",):
            raise WrongKind("[")
        return (behind(place, ("index", index)), kind[1])

    def field_of(self, kind, name):
        """The number of the field that the name means in a kind, which must be a record."""
        if kind[0] != "record":
            raise WrongKind(name)
        fields = self.declarations.fields[kind[1]]
        if name not in fields:
            raise UnknownName(name)
        return fields.index(name)

    def typed_vec_place(self, tree, word):
        """A place, which must be a vec, and the kind of its members."""
        place, kind = self.typed_place(tree)
        if kind[0] != "vec":
            raise WrongKind(word)
        return (place, kind[1])

    def typed_expr(self, expr):
        """The typed tree of an expression."""
        word = expr[0]
        if word in ("num", "truth"):
            return expr
        if word in PLACES:
            return self.typed_name_or_use(expr)
        if word == "op":
            return self.typed_op(expr)
        if word == "not":
            return ("not", self.typed_of_kind(expr[1], ("bool",), "!"))
        if word == "box":
            return self.typed_box(expr)
        if word == "unbox":
            return self.typed_unbox(expr)
        if word in REFERENCES:
            return self.typed_lend(expr)
        if word == "vec":
            kind = self.declarations.read_kind(expr)
            return ("vec", kind)
        if word == "len":
            place, _ = self.typed_vec_place(expr[1], "len")
            return ("len", place)
        return self.typed_call(expr)

    def typed_of_kind(self, expr, kind, word):
        """The typed tree of an expression, which must have a kind; word is what wants it."""
        typed = self.typed_expr(expr)
        if kind_of_expr(typed) != kind:
            raise WrongKind(word)
        return typed

    def typed_name_or_use(self, tree):
        """A tag without kinds, or a place that is used as a value."""
        if tree[0] == "name" and tree[1] not in self.known:
            return self.typed_bare_tag(tree[1])
        place, kind = self.typed_place(tree)
        if is_copied(kind):
            return ("copy", place, kind)
        number = self.whole(tree, place)
        if kind[0] == "mut":
            return ("again", number, kind)
        return ("move", number, kind)

    def typed_bare_tag(self, name):
        """A tag, which must have no kinds, as no parenthesis stands behind its name."""
        made = self.declarations.calls.get(name, ("none",))
        if made[0] != "variant" or self.declarations.kinds_of_values(made):
            raise UnknownName(name)
        return (*made, ())

    def whole(self, tree, place):
        """The number of the variable of a place, which must be the whole variable."""
        number, projections = place
        if projections:
            raise NotWhole(variable_of(tree))
        return number

    def typed_op(self, expr):
        """An operator: both sides first, then their kinds."""
        _, sign, left, right = expr
        one = self.typed_expr(left)
        other = self.typed_expr(right)
        for side in (one, other):
            if kind_of_expr(side) != ("int",):
                raise WrongKind(sign)
        return ("op", sign, one, other)

    def typed_box(self, expr):
        """A box of a data kind."""
        within = self.typed_expr(expr[1])
        kind = kind_of_expr(within)
        if kind[0] in REFERENCES:
            raise WrongKind("box")
        return ("box", within, ("box", kind))

    def typed_unbox(self, expr):
        """What is in a box."""
        within = self.typed_expr(expr[1])
        kind = kind_of_expr(within)
        if kind[0] != "box":
            raise WrongKind("unbox")
        return ("unbox", within, kind[1])

    def typed_lend(self, expr):
        """A place of a data kind, lent."""
        word, tree = expr
        place, kind = self.typed_place(tree)
        if kind[0] in REFERENCES:
            raise WrongKind(word)
        return ("lend", word, place, (word, kind))

    def typed_call(self, expr):
        """A call of a function, or a record or tag with its values."""
        _, name, exprs = expr
        if name not in self.declarations.calls:
            raise UnknownName(name)
        made = self.declarations.calls[name]
        kinds = self.declarations.kinds_of_values(made)
        if len(exprs) != len(kinds):
            raise WrongCount(name)
        values = tuple([self.typed_of_kind(value, kind, name) for value, kind in zip(exprs, kinds)])
        if made[0] == "call":
            return (*made, values, self.declarations.signatures[made[1]][1])
        return (*made, values)


def behind(place, projection):
    """The place with one more projection behind it."""
    number, projections = place
    return (number, (*projections, projection))


def variable_of(tree):
    """The name of the variable in which a place lies."""
    while tree[0] != "name":
        tree = tree[1]
    return tree[1]
