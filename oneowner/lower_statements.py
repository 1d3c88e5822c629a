"""The rows and blocks of statements."""

from oneowner.lower_values import ValueLowering


class StatementLowering(ValueLowering):
    """Makes the rows of statements; counting has the variables that count, the last declared one last."""

    def __init__(self, kinds):
        ValueLowering.__init__(self, kinds)
        self.counting = []

    def lower_statements(self, statements):
        """The rows of statements, one behind the other."""
        for statement in statements:
            self.lower_statement(statement)

    def lower_statement(self, statement):
        """The rows of a statement."""
        word = statement[0]
        if word == "let":
            value = self.lower_value(statement[2])
            self.put(("set", (statement[1] + 1, ()), ("use", value)))
            self.begin((statement[1],))
        elif word == "open":
            local = self.lower_to_local(statement[1])
            self.put(("open", local, self.begin(statement[2])))
        elif word == "take":
            place = self.lower_place(statement[1])
            self.put(("take", statement[2] + 1, place))
            self.begin((statement[2],))
        elif word == "set":
            value = self.lower_value(statement[2])
            self.put(("set", self.lower_place(statement[1]), ("use", value)))
        elif word == "push":
            value = self.lower_value(statement[2])
            self.put(("push", self.lower_place(statement[1]), value))
        elif word == "show":
            self.put(("show", self.lower_value(statement[1])))
        elif word == "do":
            self.put(("drop", self.lower_to_local(statement[1])))
        else:
            self.lower_blocks(statement)

    def lower_blocks(self, statement):
        """The rows and blocks of a statement that has blocks."""
        if statement[0] == "if":
            self.lower_if(statement)
        elif statement[0] == "while":
            self.lower_while(statement)
        elif statement[0] == "match":
            self.lower_match(statement)
        else:
            self.lower_par(statement)

    def begin(self, numbers):
        """Variables that count from here on; returns the tuple of their locals."""
        self.counting.extend(numbers)
        return tuple([number + 1 for number in numbers])

    def end_down_to(self, many):
        """Ends all variables that count but for so many, the last one first."""
        while len(self.counting) > many:
            self.put(("end", self.counting.pop() + 1))

    def lower_block(self, at, statements, way):
        """Statements in a block of their own, at the end of which the way goes on."""
        self.at = at
        many = len(self.counting)
        self.lower_statements(statements)
        self.end_down_to(many)
        self.end_with(way)

    def lower_if(self, statement):
        """An if: its two blocks, and what comes behind."""
        _, expr, one, other = statement
        value = self.lower_value(expr)
        first = self.new_block()
        second = self.new_block()
        behind = self.new_block()
        self.end_with(("branch", value, first, second))
        self.lower_block(first, one, ("go", behind))
        self.lower_block(second, other, ("go", behind))
        self.at = behind

    def lower_while(self, statement):
        """A while: its head, its body, and what comes behind."""
        _, expr, statements = statement
        head = self.new_block()
        body = self.new_block()
        behind = self.new_block()
        self.end_with(("go", head))
        self.at = head
        value = self.lower_value(expr)
        self.end_with(("branch", value, body, behind))
        self.lower_block(body, statements, ("go", head))
        self.at = behind

    def lower_match(self, statement):
        """A match: the block of each case, and what comes behind."""
        _, how, typed_place, cases = statement
        place = self.lower_place(typed_place)
        blocks = tuple([self.new_block() for _ in cases])
        behind = self.new_block()
        self.end_with(("switch", place, blocks))
        for tag in range(len(cases)):
            numbers, statements = cases[tag]
            self.at = blocks[tag]
            many = len(self.counting)
            self.put_names_of_case(how, place, tag, numbers)
            self.lower_statements(statements)
            self.end_down_to(many)
            self.end_with(("go", behind))
        self.at = behind

    def put_names_of_case(self, how, place, tag, numbers):
        """The rows at the beginning of a case, for its names."""
        locals_of_names = self.begin(numbers)
        if how == "move":
            self.put(("unpack", place[0], tag, locals_of_names))
            return
        for at in range(len(locals_of_names)):
            part = (place[0], (*place[1], ("part", tag, at)))
            self.put(("set", (locals_of_names[at], ()), ("lend", how, part)))

    def lower_par(self, statement):
        """A par: its two sides, and what comes behind."""
        _, one, other = statement
        first = self.new_block()
        second = self.new_block()
        behind = self.new_block()
        self.end_with(("par", first, second, behind))
        self.lower_block(first, one, ("join",))
        self.lower_block(second, other, ("join",))
        self.at = behind
