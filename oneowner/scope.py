"""The variables of a function, and which of their names count."""

from oneowner.errors import DoubleName, UnknownName


class Scope:
    """The kinds of all variables so far, and the numbers of the names that count."""

    def __init__(self, declarations):
        self.declarations = declarations
        self.kinds = []
        self.known = {}

    def declare(self, name, kind):
        """A new variable; returns its number."""
        if name in self.known:
            raise DoubleName(name)
        number = len(self.kinds)
        self.kinds.append(kind)
        self.known[name] = number
        return number

    def declare_all(self, names, kinds):
        """New variables, as many as there are kinds; returns the tuple of their numbers."""
        return tuple([self.declare(name, kind) for name, kind in zip(names, kinds)])

    def number_of(self, name):
        """The number of the variable that the name means here."""
        if name not in self.known:
            raise UnknownName(name)
        return self.known[name]
