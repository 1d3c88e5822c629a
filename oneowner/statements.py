"""Statements and blocks, from tokens to trees."""

from oneowner.expressions import ExpressionReader


class StatementReader(ExpressionReader):
    """Reads statements and blocks by the grammar; rest_of is what stands behind the first word."""

    def read_block(self):
        """block"""
        self.want("{")
        statements = []
        while not self.skip("}"):
            statements.append(self.read_statement())
        return tuple(statements)

    def read_statement(self):
        """statement"""
        if self.skip("let"):
            return self.read_rest_of_let()
        if self.skip("open"):
            return self.read_rest_of_opening()
        if self.skip("match"):
            return self.read_rest_of_match()
        if self.skip("if"):
            return self.read_rest_of_if()
        if self.skip("while"):
            return ("while", self.read_expr(), self.read_block())
        if self.skip("show"):
            return ("show", self.read_last_expr())
        if self.skip("push"):
            return self.read_rest_of_push()
        if self.skip("take"):
            return self.read_rest_of_take()
        if self.skip("par"):
            return ("par", self.read_block(), self.read_block())
        if self.next_kind() != "name" and self.next_text() not in ("*", "("):
            self.refuse()
        return self.read_call_or_set()

    def read_last_expr(self):
        """The expression at the end of a statement, with the semicolon."""
        expr = self.read_expr()
        self.want(";")
        return expr

    def read_last_name(self):
        """The name at the end of a statement, with the semicolon."""
        name = self.read_name()
        self.want(";")
        return name

    def read_rest_of_let(self):
        """let"""
        name = self.read_name()
        self.want(":")
        kind = self.read_kind()
        self.want("=")
        return ("let", name, kind, self.read_last_expr())

    def read_rest_of_opening(self):
        """open"""
        expr = self.read_expr()
        self.want("as")
        names = self.read_names()
        self.want(";")
        return ("open", expr, names)

    def read_rest_of_match(self):
        """match"""
        how = "move"
        if self.next_text() in ("ref", "mut"):
            how = self.step()
        place = self.read_place()
        self.want("{")
        cases = []
        while not self.skip("}"):
            cases.append(self.read_case())
        return ("match", how, place, tuple(cases))

    def read_case(self):
        """case"""
        tag = self.read_name()
        names = ()
        if self.next_text() == "(":
            names = self.read_names()
        return (tag, names, self.read_block())

    def read_names(self):
        """names"""
        self.want("(")
        names = self.read_bare_names()
        self.want(")")
        return names

    def read_rest_of_if(self):
        """if"""
        expr = self.read_expr()
        one = self.read_block()
        other = ()
        if self.skip("else"):
            other = self.read_block()
        return ("if", expr, one, other)

    def read_rest_of_push(self):
        """push"""
        self.want("(")
        place = self.read_place()
        self.want(",")
        expr = self.read_expr()
        self.want(")")
        self.want(";")
        return ("push", place, expr)

    def read_rest_of_take(self):
        """take"""
        place = self.read_place_in_parentheses()
        self.want("as")
        return ("take", place, self.read_last_name())

    def read_call_or_set(self):
        """A call, or a set of a place: the tree ahead of the next sign tells which."""
        tree = self.read_place_or_value()
        if tree[0] == "call":
            self.want(";")
            return ("do", tree)
        self.want_place(tree)
        self.want("=")
        return ("set", tree, self.read_last_expr())
