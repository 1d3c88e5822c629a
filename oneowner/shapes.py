"""Shapes of things that may be any values made of tuples, integers, strings, truths and None."""

WORDS = 4294967296


def is_index(thing, many):
    """True if the thing is an integer from 0 on and below so many; a truth is none."""
    return isinstance(thing, int) and not isinstance(thing, bool) and 0 <= thing < many


def is_word(thing):
    """True if the thing is a word."""
    return is_index(thing, WORDS)


def is_row(thing, least, most):
    """True if the thing is a tuple whose length has these bounds."""
    return isinstance(thing, tuple) and least <= len(thing) <= most


def is_form(thing, word, many):
    """True if the thing is a tuple of so many that begins with the word."""
    return is_row(thing, many, many) and thing[0] == word
