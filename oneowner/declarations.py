"""What a program declares: its records, variants, tags and functions, by their names."""

from oneowner.errors import DoubleName, Endless, UnknownName, WrongCount, WrongKind
from oneowner.kinds import REFERENCES, lies_in_itself


class Names:
    """Names that must all be different."""

    def __init__(self):
        self.known = {}

    def declare(self, name):
        """One more name."""
        if name in self.known:
            raise DoubleName(name)
        self.known[name] = True


class Declarations:
    """
    The declarations of a program, all of them right.

    calls has for each name that may stand ahead of a parenthesis what it makes: ("call", f),
    ("record", n) or ("variant", n, tag); signatures has (kinds of params, result, from).
    """

    def __init__(self, program):
        check_names(program)
        records, variants, functions = program
        self.named = kinds_by_name(records, variants)
        self.names = [name for name, _ in records]
        self.fields = [[field for field, _ in fields] for _, fields in records]
        self.variant_names = [name for name, _ in variants]
        self.tags = [[tag for tag, _ in tags] for _, tags in variants]
        self.calls = calls_by_name(program)
        self.book = self.read_book(records, variants)
        self.signatures = [self.read_signature(function) for function in functions]
        self.main = self.find_main()
        self.check_endless()

    def read_kind(self, kind):
        """The resolved kind of a tree."""
        if kind[0] == "named":
            if kind[1] not in self.named:
                raise UnknownName(kind[1])
            return self.named[kind[1]]
        if len(kind) == 1:
            return kind
        within = self.read_kind(kind[1])
        if within[0] in REFERENCES:
            raise WrongKind(kind[0])
        return (kind[0], within)

    def read_data_kind(self, kind, word):
        """The resolved kind of a tree where none of a reference may stand; word is what stands there."""
        resolved = self.read_kind(kind)
        if resolved[0] in REFERENCES:
            raise WrongKind(word)
        return resolved

    def read_book(self, records, variants):
        """The book of the kinds of all fields, then of all tags."""
        kinds_of_records = [
            tuple([self.read_data_kind(kind, field) for field, kind in fields]) for _, fields in records
        ]
        kinds_of_variants = [
            tuple([tuple([self.read_data_kind(kind, tag) for kind in kinds]) for tag, kinds in tags])
            for _, tags in variants
        ]
        return (tuple(kinds_of_records), tuple(kinds_of_variants))

    def read_signature(self, function):
        """The kinds of the params and of the result, and the numbers of the params behind from."""
        name, params, result_tree, lenders, _, _ = function
        kinds = tuple([self.read_kind(kind) for _, kind in params])
        result = self.read_kind(result_tree)
        places = {params[at][0]: at for at in range(len(params))}
        for lender in lenders:
            if lender not in places:
                raise UnknownName(lender)
        if (result[0] in REFERENCES) != (len(lenders) > 0):
            raise WrongCount(name)
        for lender in lenders:
            if not may_lend(kinds[places[lender]], result):
                raise WrongKind(lender)
        return (kinds, result, tuple(sorted(set([places[lender] for lender in lenders]))))

    def find_main(self):
        """The index of the function main."""
        made = self.calls.get("main", ("none",))
        if made[0] != "call":
            raise UnknownName("main")
        kinds, result, _ = self.signatures[made[1]]
        for kind in (*kinds, result):
            if kind not in (("int",), ("bool",)):
                raise WrongKind("main")
        return made[1]

    def check_endless(self):
        """Sees to it that no record and no variant holds itself."""
        for number in range(len(self.names)):
            if lies_in_itself(self.book, ("record", number)):
                raise Endless(self.names[number])
        for number in range(len(self.variant_names)):
            if lies_in_itself(self.book, ("variant", number)):
                raise Endless(self.variant_names[number])

    def kinds_of_values(self, made):
        """The kinds of the values that a call, a record or a tag takes."""
        records, variants = self.book
        if made[0] == "call":
            return self.signatures[made[1]][0]
        if made[0] == "record":
            return records[made[1]]
        return variants[made[1]][made[2]]


def check_names(program):
    """Sees to it that the names of records, variants, tags and functions differ, and those within each."""
    records, variants, functions = program
    names = Names()
    for name, fields in records:
        names.declare(name)
        check_pairs(fields)
    for name, tags in variants:
        names.declare(name)
        for tag, _ in tags:
            names.declare(tag)
    for function in functions:
        names.declare(function[0])
        check_pairs(function[1])


def check_pairs(pairs):
    """Sees to it that the names of fields or params differ."""
    names = Names()
    for name, _ in pairs:
        names.declare(name)


def kinds_by_name(records, variants):
    """The resolved kind for the name of each record and variant."""
    named = {records[at][0]: ("record", at) for at in range(len(records))}
    for at in range(len(variants)):
        named[variants[at][0]] = ("variant", at)
    return named


def calls_by_name(program):
    """What each name makes that may stand ahead of a parenthesis."""
    records, variants, functions = program
    calls = {}
    for at in range(len(records)):
        calls[records[at][0]] = ("record", at)
    for at in range(len(variants)):
        tags = variants[at][1]
        for tag in range(len(tags)):
            calls[tags[tag][0]] = ("variant", at, tag)
    for at in range(len(functions)):
        calls[functions[at][0]] = ("call", at)
    return calls


def may_lend(kind, result):
    """True if a result of a reference kind may be lent from a param of this kind."""
    if result[0] == "mut":
        return kind[0] == "mut"
    return kind[0] in REFERENCES
