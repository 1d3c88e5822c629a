"""What typed trees tell of themselves."""

# The words of the expressions that have one kind wherever they stand.
PLAIN_KINDS = {"num": ("int",), "truth": ("bool",), "not": ("bool",), "len": ("int",)}
# These do not end with their kind: they name the record or variant that they make.
MAKERS = ("record", "variant")


def kind_of_expr(expr):
    """The kind of a typed expression."""
    word = expr[0]
    if word in PLAIN_KINDS:
        return PLAIN_KINDS[word]
    if word == "op":
        return kind_of_op(expr[1])
    if word in MAKERS:
        return (word, expr[1])
    return expr[-1]


def kind_of_op(sign):
    """The kind of what an operator gives."""
    if sign in ("==", "<"):
        return ("bool",)
    return ("int",)
