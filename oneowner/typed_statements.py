"""The typed trees of statements and functions."""

from oneowner.errors import UnknownName, WrongCount, WrongKind
from oneowner.kinds import is_copied
from oneowner.typed_exprs import ExpressionTyper
from oneowner.typed_trees import kind_of_expr


class StatementTyper(ExpressionTyper):
    """Gives the statements of one function their kinds."""

    def typed_function(self, function, signature):
        """The typed tree of a function, of which the params' kinds, the result and from are told."""
        _, params, _, _, statements, expr = function
        kinds, result, lenders = signature
        self.declare_all([name for name, _ in params], kinds)
        body = self.typed_statements(statements)
        value = self.typed_of_kind(expr, result, "return")
        return (len(params), tuple(self.kinds), result, lenders, body, value)

    def typed_statements(self, statements):
        """Statements, whose names count until the end of what they stand in."""
        return tuple([self.typed_statement(statement) for statement in statements])

    def typed_block(self, statements):
        """Statements, whose names count no more behind them."""
        outside = dict(self.known)
        typed = self.typed_statements(statements)
        self.known = outside
        return typed

    def typed_statement(self, statement):
        """The typed tree of a statement."""
        word = statement[0]
        if word == "let":
            return self.typed_let(statement)
        if word == "open":
            return self.typed_opening(statement)
        if word == "match":
            return self.typed_match(statement)
        if word == "if":
            expr = self.typed_of_kind(statement[1], ("bool",), "if")
            return ("if", expr, self.typed_block(statement[2]), self.typed_block(statement[3]))
        if word == "while":
            expr = self.typed_of_kind(statement[1], ("bool",), "while")
            return ("while", expr, self.typed_block(statement[2]))
        if word == "show":
            return self.typed_show(statement)
        if word == "push":
            return self.typed_push(statement)
        if word == "take":
            place, kind = self.typed_vec_place(statement[1], "take")
            return ("take", place, self.declare(statement[2], kind))
        if word == "par":
            return ("par", self.typed_block(statement[1]), self.typed_block(statement[2]))
        if word == "do":
            return ("do", self.typed_expr(statement[1]))
        return self.typed_set(statement)

    def typed_let(self, statement):
        """A let: the told kind, the expression, then the name."""
        _, name, tree, expr = statement
        kind = self.declarations.read_kind(tree)
        value = self.typed_of_kind(expr, kind, name)
        return ("let", self.declare(name, kind), value)

    def typed_set(self, statement):
        """A set: the expression ahead of the place."""
        _, tree, expr = statement
        value = self.typed_expr(expr)
        place, kind = self.typed_place(tree)
        if kind_of_expr(value) != kind:
            raise WrongKind("=")
        return ("set", place, value)

    def typed_opening(self, statement):
        """An open of a record, with a name for each field."""
        _, expr, names = statement
        value = self.typed_expr(expr)
        kind = kind_of_expr(value)
        if kind[0] != "record":
            raise WrongKind("open")
        kinds = self.declarations.book[0][kind[1]]
        if len(names) != len(kinds):
            raise WrongCount(self.declarations.names[kind[1]])
        return ("open", value, self.declare_all(names, kinds))

    def typed_show(self, statement):
        """A show of an int or a bool."""
        value = self.typed_expr(statement[1])
        if kind_of_expr(value) not in (("int",), ("bool",)):
            raise WrongKind("show")
        return ("show", value)

    def typed_push(self, statement):
        """A push: the expression ahead of the place."""
        _, tree, expr = statement
        value = self.typed_expr(expr)
        place, kind = self.typed_vec_place(tree, "push")
        if kind_of_expr(value) != kind:
            raise WrongKind("push")
        return ("push", place, value)

    def typed_match(self, statement):
        """A match: its place, then case by case, then whether there is one for each tag in order."""
        _, how, tree, cases = statement
        place, kind = self.typed_place(tree)
        if how == "move" and not is_copied(kind):
            self.whole(tree, place)
        if kind[0] != "variant":
            raise WrongKind("match")
        typed = tuple([self.typed_case(case, kind[1], how) for case in cases])
        if [tag for tag, _, _ in cases] != self.declarations.tags[kind[1]]:
            raise WrongCount(self.declarations.variant_names[kind[1]])
        return ("match", how, place, typed)

    def typed_case(self, case, variant, how):
        """A case of a match of a variant, and the numbers of what it declares."""
        tag, names, statements = case
        made = self.declarations.calls.get(tag, ("none",))
        if made[:2] != ("variant", variant):
            raise UnknownName(tag)
        kinds = [kind if how == "move" else (how, kind) for kind in self.declarations.kinds_of_values(made)]
        if len(names) != len(kinds):
            raise WrongCount(tag)
        outside = dict(self.known)
        numbers = self.declare_all(names, kinds)
        typed = self.typed_statements(statements)
        self.known = outside
        return (numbers, typed)
