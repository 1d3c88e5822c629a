"""Typed programs to programs of the middle form."""

from oneowner.lower_statements import StatementLowering


def lower(typed):
    """The program of the middle form: (book, functions, main)."""
    book, functions, main = typed
    return (book, tuple([lower_function(function) for function in functions]), main)


def lower_function(function):
    """A function of the middle form: (params, kinds, blocks, from)."""
    params, kinds, result, lenders, statements, expr = function
    lowering = StatementLowering((result, *kinds))
    lowering.begin(tuple(range(params)))
    lowering.lower_statements(statements)
    value = lowering.lower_value(expr)
    lowering.put(("set", (0, ()), ("use", value)))
    lowering.end_down_to(0)
    lowering.end_with(("return",))
    return (params, tuple(lowering.kinds), lowering.blocks(), tuple([lender + 1 for lender in lenders]))
