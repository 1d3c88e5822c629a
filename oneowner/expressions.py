"""Kinds, places and expressions, from tokens to trees."""

from oneowner.cursor import Cursor

PLACES = ("name", "deref", "field", "index")


class ExpressionReader(Cursor):
    """Reads kinds, places and expressions by the grammar."""

    def read_kind(self):
        """kind"""
        if self.next_text() in ("int", "bool"):
            return (self.step(),)
        if self.next_text() in ("box", "vec", "ref", "mut"):
            word = self.step()
            return (word, self.read_kind())
        return ("named", self.read_name())

    def read_expr(self):
        """expr: at most one comparison, as they do not chain."""
        left = self.read_total()
        if self.next_text() in ("==", "<"):
            sign = self.step()
            return ("op", sign, left, self.read_total())
        return left

    def read_total(self):
        """total, grouped to the left"""
        left = self.read_product()
        while self.next_text() in ("+", "-"):
            sign = self.step()
            left = ("op", sign, left, self.read_product())
        return left

    def read_product(self):
        """product, grouped to the left"""
        left = self.read_unary()
        while self.skip("*"):
            left = ("op", "*", left, self.read_unary())
        return left

    def read_unary(self):
        """unary"""
        if self.skip("!"):
            return ("not", self.read_unary())
        if self.next_text() in ("box", "unbox"):
            word = self.step()
            return (word, self.read_unary())
        if self.next_text() in ("ref", "mut"):
            word = self.step()
            return (word, self.read_place())
        if self.skip("*"):
            return ("deref", self.read_place())
        return self.read_postfix()

    def read_place(self):
        """place, with a tree that must be one"""
        tree = self.read_place_or_value()
        self.want_place(tree)
        return tree

    def read_place_or_value(self):
        """place, whatever its tree is"""
        if self.skip("*"):
            return ("deref", self.read_place())
        return self.read_postfix()

    def read_postfix(self):
        """postfix: what stands ahead of each . and [ must be a place."""
        tree = self.read_primary()
        while self.next_text() in (".", "["):
            self.want_place(tree)
            if self.skip("."):
                tree = ("field", tree, self.read_name())
            else:
                self.want("[")
                tree = ("index", tree, self.read_expr())
                self.want("]")
        return tree

    def read_primary(self):
        """primary"""
        if self.next_kind() == "number":
            return ("num", int(self.step()))
        if self.next_text() in ("true", "false"):
            return ("truth", self.step() == "true")
        if self.skip("vec"):
            return ("vec", self.read_kind())
        if self.skip("len"):
            return ("len", self.read_place_in_parentheses())
        if self.next_kind() == "name":
            name = self.step()
            if self.skip("("):
                return ("call", name, self.read_rest_of_values())
            return ("name", name)
        self.want("(")
        expr = self.read_expr()
        self.want(")")
        return expr

    def read_rest_of_values(self):
        """The values of a call and the parenthesis behind them."""
        if self.skip(")"):
            return ()
        values = [self.read_expr()]
        while self.skip(","):
            values.append(self.read_expr())
        self.want(")")
        return tuple(values)

    def read_place_in_parentheses(self):
        """The place of a len or take, with its parentheses."""
        self.want("(")
        place = self.read_place()
        self.want(")")
        return place

    def want_place(self, tree):
        """Sees to it that a tree is a place; if not, the token behind it is the wrong one."""
        if tree[0] not in PLACES:
            self.refuse()
