"""Texts to tokens: tuples (kind, text, row, column)."""

from oneowner.errors import BadCharacter, BadNumber

KEYWORDS = (
    "record", "variant", "fn", "let", "open", "as", "match", "ref", "mut", "if", "else", "while",
    "show", "push", "take", "par", "return", "true", "false", "box", "unbox", "vec", "len", "int",
    "bool", "from",
)

# Of two signs that fit the longer one is taken, so these are asked for first.
LONG_SIGNS = ("==", "->")
SHORT_SIGNS = "{}()[],;:.=+-*<!"

LETTERS = "abcdefghijklmnopqrstuvwxyzABCDEFGHIJKLMNOPQRSTUVWXYZ"
DIGITS = "0123456789"
GREATEST_WORD = 4294967295
GREATEST_LENGTH = 10


def tokens(text):
    """The list of the tokens of a text, the end token last."""
    found = []
    at = 0
    row = 1
    row_begin = 0
    while at < len(text):
        char = text[at]
        if char == "\n":
            at += 1
            row += 1
            row_begin = at
        elif char == " ":
            at += 1
        elif char == "#":
            at = comment_end(text, at)
        else:
            token = token_at(text, at, row, at - row_begin + 1)
            found.append(token)
            at += len(token[1])
    found.append(("end", "", row, at - row_begin + 1))
    return found


def comment_end(text, at):
    """Where the comment that begins there ends: ahead of the next newline."""
    newline = text.find("\n", at)
    if newline < 0:
        return len(text)
    return newline


def token_at(text, at, row, column):
    """The token that begins there."""
    if text[at] in LETTERS:
        word = word_at(text, at)
        if word in KEYWORDS:
            return ("keyword", word, row, column)
        return ("name", word, row, column)
    if text[at] in DIGITS:
        word = word_at(text, at)
        if not is_number(word):
            raise BadNumber(row, column)
        return ("number", word, row, column)
    if text[at:at + 2] in LONG_SIGNS:
        return ("sign", text[at:at + 2], row, column)
    if text[at] in SHORT_SIGNS:
        return ("sign", text[at], row, column)
    raise BadCharacter(row, column)


def word_at(text, at):
    """All letters, digits and _ from there on."""
    end = at
    while end < len(text) and is_within_word(text[end]):
        end += 1
    return text[at:end]


def is_within_word(char):
    """True if names and numbers extend over the character."""
    return char in LETTERS or char in DIGITS or char == "_"


def is_number(word):
    """True if what begins with a digit is a number."""
    for char in word:
        if char not in DIGITS:
            return False
    if len(word) > 1 and word[0] == "0":
        return False
    # Python refuses to read integers of very many digits, so the length comes first.
    return len(word) <= GREATEST_LENGTH and int(word) <= GREATEST_WORD
