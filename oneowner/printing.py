"""Trees to texts, in the one form of a program."""

OP_LEVELS = {"==": 1, "<": 1, "+": 2, "-": 2, "*": 3}
OP_LEFT_NEEDS = {"==": 2, "<": 2, "+": 2, "-": 2, "*": 3}
OP_RIGHT_NEEDS = {"==": 2, "<": 2, "+": 3, "-": 3, "*": 4}
PREFIXES = ("not", "box", "unbox", "ref", "mut", "deref")
PREFIX_LEVEL = 4
GREATEST_LEVEL = 5


def print_program(program):
    """The text of a program: its records, then its variants, then its functions."""
    records, variants, functions = program
    rows = [row_of_record(record) for record in records]
    rows.extend([row_of_variant(variant) for variant in variants])
    for function in functions:
        rows.extend(rows_of_function(function))
    return "".join([row + "\n" for row in rows])


def row_of_record(record):
    """The row of a record."""
    return "record " + record[0] + " { " + print_pairs(record[1]) + " }"


def row_of_variant(variant):
    """The row of a variant."""
    return "variant " + variant[0] + " { " + ", ".join([print_tag(tag) for tag in variant[1]]) + " }"


def print_tag(tag):
    """A tag, with its kinds in parentheses if it has some."""
    name, kinds = tag
    if not kinds:
        return name
    return name + "(" + ", ".join([print_kind(kind) for kind in kinds]) + ")"


def print_pairs(pairs):
    """The names and kinds of fields or params."""
    return ", ".join([name + ": " + print_kind(kind) for name, kind in pairs])


def print_kind(kind):
    """A kind."""
    if kind[0] == "named":
        return kind[1]
    if len(kind) == 1:
        return kind[0]
    return kind[0] + " " + print_kind(kind[1])


def rows_of_function(function):
    """The rows of a function."""
    name, params, result, lenders, statements, expr = function
    head = "fn " + name + "(" + print_pairs(params) + ") -> " + print_kind(result)
    if lenders:
        head = head + " from " + ", ".join(lenders)
    rows = [*rows_of_statements(statements), "return " + print_expr(expr) + ";"]
    return [head + " {", *indented(rows), "}"]


def indented(rows):
    """The rows with two more spaces ahead of each."""
    return ["  " + row for row in rows]


def rows_of_statements(statements):
    """The rows of statements, one behind the other."""
    rows = []
    for statement in statements:
        rows.extend(rows_of_statement(statement))
    return rows


def rows_of_statement(statement):
    """The rows of a statement: one, but for those that have blocks."""
    word = statement[0]
    if word == "if":
        return rows_of_if(statement)
    if word == "while":
        return ["while " + print_expr(statement[1]) + " {", *rows_within(statement[2]), "}"]
    if word == "match":
        return rows_of_match(statement)
    if word == "par":
        return ["par {", *rows_within(statement[1]), "} {", *rows_within(statement[2]), "}"]
    return [print_simple(statement) + ";"]


def rows_within(statements):
    """The rows of the statements of a block."""
    return indented(rows_of_statements(statements))


def rows_of_if(statement):
    """The rows of an if; there is no else if nothing stands behind it."""
    _, expr, one, other = statement
    rows = ["if " + print_expr(expr) + " {", *rows_within(one)]
    if other:
        rows.append("} else {")
        rows.extend(rows_within(other))
    return [*rows, "}"]


def rows_of_match(statement):
    """The rows of a match; its word is not written if it moves."""
    _, how, place, cases = statement
    head = "match "
    if how != "move":
        head = head + how + " "
    rows = []
    for case in cases:
        rows.extend(rows_of_case(case))
    return [head + print_expr(place) + " {", *indented(rows), "}"]


def rows_of_case(case):
    """The rows of a case, its names in parentheses if it has some."""
    tag, names, statements = case
    head = tag
    if names:
        head = head + print_names(names)
    return [head + " {", *rows_within(statements), "}"]


def print_names(names):
    """Names in parentheses."""
    return "(" + ", ".join(names) + ")"


def print_simple(statement):
    """A statement that is one row, without its semicolon."""
    word = statement[0]
    if word == "let":
        return "let " + statement[1] + ": " + print_kind(statement[2]) + " = " + print_expr(statement[3])
    if word == "open":
        return "open " + print_expr(statement[1]) + " as " + print_names(statement[2])
    if word == "show":
        return "show " + print_expr(statement[1])
    if word == "push":
        return "push(" + print_expr(statement[1]) + ", " + print_expr(statement[2]) + ")"
    if word == "take":
        return "take(" + print_expr(statement[1]) + ") as " + statement[2]
    if word == "set":
        return print_expr(statement[1]) + " = " + print_expr(statement[2])
    return print_expr(statement[1])


def print_expr(expr):
    """The text of an expression, places among them."""
    word = expr[0]
    if word == "num":
        return str(expr[1])
    if word == "truth":
        return "true" if expr[1] else "false"
    if word == "name":
        return expr[1]
    if word == "op":
        return print_op(expr[1], expr[2], expr[3])
    if word in PREFIXES:
        return print_prefix(word, expr[1])
    if word == "field":
        return print_at(expr[1], GREATEST_LEVEL) + "." + expr[2]
    if word == "index":
        return print_at(expr[1], GREATEST_LEVEL) + "[" + print_expr(expr[2]) + "]"
    if word == "vec":
        return "vec " + print_kind(expr[1])
    if word == "len":
        return "len(" + print_expr(expr[1]) + ")"
    return expr[1] + "(" + ", ".join([print_expr(value) for value in expr[2]]) + ")"


def print_op(sign, left, right):
    """An operator between its two sides."""
    ahead = print_at(left, OP_LEFT_NEEDS[sign])
    behind = print_at(right, OP_RIGHT_NEEDS[sign])
    return ahead + " " + sign + " " + behind


def print_prefix(word, within):
    """What stands ahead of one expression or place."""
    if word == "not":
        return "!" + print_at(within, PREFIX_LEVEL)
    if word == "deref":
        return "*" + print_lent(within)
    if word in ("ref", "mut"):
        return word + " " + print_lent(within)
    return word + " " + print_at(within, PREFIX_LEVEL)


def print_lent(place):
    """The place behind ref, mut or a `*`."""
    if place[0] == "deref":
        return print_at(place, PREFIX_LEVEL)
    return print_at(place, GREATEST_LEVEL)


def print_at(expr, need):
    """An expression at a place that needs a level: in parentheses if it has a lower one."""
    if level_of(expr) < need:
        return "(" + print_expr(expr) + ")"
    return print_expr(expr)


def level_of(expr):
    """The level of an expression."""
    if expr[0] == "op":
        return OP_LEVELS[expr[1]]
    if expr[0] in PREFIXES:
        return PREFIX_LEVEL
    return GREATEST_LEVEL
