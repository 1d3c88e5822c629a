"""Texts of programs and of expressions to trees."""

from oneowner.statements import StatementReader


class ProgramReader(StatementReader):
    """Reads programs by the grammar; rest_of is what stands behind the first word."""

    def read_program(self):
        """program"""
        records = []
        variants = []
        functions = []
        while self.next_kind() != "end":
            if self.skip("record"):
                records.append(self.read_rest_of_record())
            elif self.skip("variant"):
                variants.append(self.read_rest_of_variant())
            else:
                self.want("fn")
                functions.append(self.read_rest_of_function())
        return (tuple(records), tuple(variants), tuple(functions))

    def read_rest_of_record(self):
        """record"""
        name = self.read_name()
        self.want("{")
        fields = self.read_pairs()
        self.want("}")
        return (name, fields)

    def read_rest_of_variant(self):
        """variant"""
        name = self.read_name()
        self.want("{")
        tags = [self.read_tag()]
        while self.skip(","):
            tags.append(self.read_tag())
        self.want("}")
        return (name, tuple(tags))

    def read_tag(self):
        """tag"""
        name = self.read_name()
        kinds = []
        if self.skip("("):
            kinds.append(self.read_kind())
            while self.skip(","):
                kinds.append(self.read_kind())
            self.want(")")
        return (name, tuple(kinds))

    def read_rest_of_function(self):
        """function"""
        name = self.read_name()
        params = self.read_params()
        self.want("->")
        result = self.read_kind()
        lenders = ()
        if self.skip("from"):
            lenders = self.read_bare_names()
        self.want("{")
        statements = []
        while not self.skip("return"):
            statements.append(self.read_statement())
        expr = self.read_last_expr()
        self.want("}")
        return (name, params, result, lenders, tuple(statements), expr)

    def read_params(self):
        """The params of a function, perhaps none, in parentheses."""
        self.want("(")
        if self.skip(")"):
            return ()
        params = self.read_pairs()
        self.want(")")
        return params

    def read_pairs(self):
        """name ":" kind ("," name ":" kind)*"""
        pairs = [self.read_pair()]
        while self.skip(","):
            pairs.append(self.read_pair())
        return tuple(pairs)

    def read_pair(self):
        """name ":" kind"""
        name = self.read_name()
        self.want(":")
        return (name, self.read_kind())


def parse(text):
    """The tree of the text of a program."""
    return ProgramReader(text).read_program()


def parse_expr(text):
    """The tree of a text that is one expression."""
    reader = ProgramReader(text)
    expr = reader.read_expr()
    reader.want_end()
    return expr
