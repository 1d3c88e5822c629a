"""Points 3.1 to 3.4: books and kinds."""

import unittest

from helpers import BOOK, BOOL, HELD, INT, LIST, PAIR, WAY, deep_kind, deep_thing, longer, replaced
from oneowner.kinds import is_book, is_copied, is_data, is_kind

EMPTY = ((), ())
NOTHING = (None, True, False, -1, 2 ** 32, "x", "")


def of_kind(kind):
    """A book with a kind as the field of its last record, and as a part of its last tag."""
    return (((INT,), (BOOL, kind)), (((), (INT,)), ((), (INT, kind))))


class BookTest(unittest.TestCase):

    def test_right_books(self):
        for book in (
            EMPTY, BOOK, (((),), ()), ((), (((),),)), (((), (), ()), (((),), ((), ()))), (((INT,),), ()),
            ((), (((INT, BOOL),),)), (((("box", INT), ("vec", BOOL)),), ()),
            (((("box", ("record", 0)),),), ()), (((("vec", ("vec", ("record", 0))),),), ()),
            ((), (((), (INT, ("box", ("variant", 0)))),)),
            (((("record", 1),), (INT,)), ()), (((("record", 1),), (("variant", 0),)), (((INT,),),)),
        ):
            with self.subTest(book):
                self.assertIs(is_book(book), True)
        for kind in (INT, BOOL, ("record", 0), ("variant", 0), ("box", INT), ("vec", BOOL), ("box", ("record", 1)),
                     ("vec", ("variant", 1)), ("box", ("vec", ("box", ("record", 0))))):
            with self.subTest(kind):
                self.assertIs(is_book(of_kind(kind)), True)

    def test_other_things(self):
        for thing in NOTHING + (0, 1, (), (()), ((),), ((), (), ()), ((), (), None), ((), None), (None, ()), ("", ""),
                                (0, 0), ((), 0), ((), True), ("records", "variants"), (((), ()),)):
            with self.subTest(thing):
                self.assertIs(is_book(thing), False)
        self.assertIs(is_book(deep_thing(5000)), False)
        self.assertIs(is_book(of_kind(deep_thing(5000))), False)

    def test_something_else_at_each_place(self):
        books = [BOOK, (((), (("record", 0),)), (((),),))]
        books.extend([of_kind(kind) for kind in (
            ("box", ("vec", ("record", 0))), ("variant", 0), ("vec", BOOL))])
        for book in books:
            for thing in replaced(book, NOTHING):
                self.assertIs(is_book(thing), False, thing)
            for thing in longer(book, NOTHING + ((None,),)):
                self.assertIs(is_book(thing), False, thing)

    def test_tuples_at_wrong_places(self):
        for thing in (
            ((INT,), ()), ((INT, BOOL), ()), ((), ((INT,),)), ((), (INT,)), ((((INT,),),), ()), (((((),),),), ()),
            ((), ((((INT,),),),)), (((),), (((),), ())), ((INT, ()), ()), ((), ((), ((),))),
        ):
            with self.subTest(thing):
                self.assertIs(is_book(thing), False)

    def test_wrong_kinds(self):
        for kind in (
            (), ((),), ("int", "int"), ("bool", INT), ("int", 0), ("box",), ("vec",), ("box", INT, INT), ("box", "int"),
            ("box", ()), ("vec", ("int", "int")), ("record",), ("record", 0, 0), ("variant",), ("variant", (0,)),
            ("record", 2), ("variant", 2), ("record", -1), ("variant", -1), ("record", True), ("record", False),
            ("variant", True), ("variant", False), ("record", None), ("record", "0"), ("record", INT), ("named", "a"),
            ("ref", INT), ("mut", INT), ("ref", ("record", 0)), ("box", ("ref", INT)), ("vec", ("mut", INT)),
            ("box", ("vec", ("ref", BOOL))), ("box", ("record", 2)), ("vec", ("variant", 2)), ("box", ("record", True)),
            ("bo", INT), ("Int",), (True,), (("int",),), ("box", ("int",), ()),
        ):
            with self.subTest(kind):
                self.assertIs(is_book(of_kind(kind)), False)

    def test_a_variant_without_a_tag(self):
        self.assertIs(is_book(((), ((),))), False)
        self.assertIs(is_book(((), (((),), ()))), False)
        self.assertIs(is_book(((), (((),), ((),)))), True)

    def test_how_deep_kinds_are(self):
        for word in ("box", "vec"):
            for inner in (INT, BOOL, ("record", 0), ("variant", 0)):
                self.assertIs(is_book(of_kind(deep_kind(word, 11, inner))), True)
                self.assertIs(is_book(of_kind(deep_kind(word, 12, inner))), False)
            self.assertIs(is_book(of_kind(deep_kind(word, 5000))), False)

    def test_how_many_there_are(self):
        for many, right in ((39, True), (40, True), (41, False), (500, False)):
            self.assertIs(is_book((((INT,),) * many, ())), right)
            self.assertIs(is_book((((),) * many, ())), right)
            self.assertIs(is_book(((), (((),),) * many)), right)
            self.assertIs(is_book(((), (((INT,), ()),) * many)), right)
            self.assertIs(is_book((((INT,),) * many, (((),),) * 40)), right)
        for many, right in ((19, True), (20, True), (21, False), (500, False)):
            self.assertIs(is_book((((INT,) * many,), ())), right)
            self.assertIs(is_book((((), (INT,) * many), ())), right)
            self.assertIs(is_book(((), (((),) * many,))), right)
            self.assertIs(is_book(((), (((),), ((BOOL,),) * many))), right)
            self.assertIs(is_book(((), (((INT,) * many,),))), right)
            self.assertIs(is_book(((), (((), (INT,) * many),))), right)
        most = (((INT,) * 20,) * 40, (((INT,) * 20,) * 20,) * 40)
        self.assertIs(is_book(most), True)

    def test_sizes(self):
        small = (("vec", INT),) * 20
        # Two fields of 500 words.
        half = (("record", 0),) * 8 + (("vec", INT),) * 6 + (INT,) * 2
        self.assertIs(is_book(((small, half, (("record", 1), ("record", 1))), ())), True)
        self.assertIs(is_book(((small, half, (("record", 1), ("record", 1), INT)), ())), False)
        self.assertIs(is_book(((small, half, (INT, ("record", 1), ("record", 1))), ())), False)
        self.assertIs(is_book(((small, half, (("record", 1), ("record", 1), ("record", 3)), ()), ())), True)
        self.assertIs(is_book(((small, half, (("record", 1), ("box", ("record", 1)))), ())), True)

    def test_sizes_of_variants(self):
        small = (("vec", INT),) * 20
        half = (("record", 0),) * 8 + (("vec", INT),) * 6 + (INT,) * 2
        near = (("record", 0),) * 8 + (("vec", INT),) * 6 + (INT,)
        both = (("record", 1), ("record", 2))
        self.assertIs(is_book(((small, half, near), ((both,),))), True)
        self.assertIs(is_book(((small, half, near), ((both, both, ()),))), True)
        self.assertIs(is_book(((small, half, near), ((both + (INT,),),))), False)
        self.assertIs(is_book(((small, half, near), (((), both + (BOOL,)),))), False)
        self.assertIs(is_book(((small, half, near), (((("record", 1), ("record", 1)),),))), False)
        # A tag alone has the size 1, so 19 fields of it and two halves are too many words.
        self.assertIs(is_book(((small, half, near, both), (((), (), ()),))), True)
        self.assertIs(is_book(((small, half, near, both + (("variant", 0),)), (((), (), ()),))), True)
        self.assertIs(is_book(((small, half, near, both + (("variant", 0),) * 2), (((), (), ()),))), False)

    def test_what_lies_in_itself(self):
        for book in (
            (((("record", 0),),), ()),
            (((INT, BOOL, ("record", 0)),), ()),
            (((INT,), (("record", 1),)), ()),
            (((("record", 1),), (("record", 0),)), ()),
            (((("record", 1),), (("record", 2),), (INT, ("record", 0))), ()),
            (((("record", 1),), (("record", 2),), (INT, ("record", 1))), ()),
            ((), (((("variant", 0),),),)),
            ((), (((), (), (INT, ("variant", 0))),)),
            ((), (((("variant", 1),),), ((("variant", 0),),))),
            (((("variant", 0),),), (((), (INT, ("record", 0))),)),
            (((("variant", 0),), (("record", 0),)), (((("record", 1),),),)),
            (((("box", ("record", 0)), ("record", 0)),), ()),
        ):
            with self.subTest(book):
                self.assertIs(is_book(book), False)

    def test_what_is_held_in_a_box_or_vec_does_not_lie_there(self):
        for word in ("box", "vec"):
            for book in (
                ((((word, ("record", 0)),),), ()),
                (((("record", 1),), ((word, ("record", 0)),)), ()),
                ((((word, ("record", 1)),), ((word, ("record", 0)), ("box", ("record", 1)))), ()),
                ((), (((), ((word, ("variant", 0)),)),)),
                ((((word, ("variant", 0)),),), (((("record", 0),),),)),
            ):
                with self.subTest(book):
                    self.assertIs(is_book(book), True)

    def test_records_within_records(self):
        chain = tuple((("record", at + 1),) for at in range(39)) + ((INT,),)
        self.assertIs(is_book((chain, ())), True)
        self.assertIs(is_book((chain[::-1], ())), False)
        self.assertIs(is_book((((),) + tuple((("record", at),) * 20 for at in range(39)), ())), True)
        self.assertIs(is_book((((INT,),) + tuple((("record", at),) * 20 for at in range(39)), ())), False)
        both = tuple((("variant", at),) for at in range(40)), tuple(((("record", at + 1),),
                                                                     ) for at in range(39)) + (((),),)
        self.assertIs(is_book(both), True)
        self.assertIs(is_book((both[0], both[1][:39] + (((("record", 0),),),))), False)


class KindTest(unittest.TestCase):

    def test_data_kinds(self):
        for kind in (INT, BOOL, PAIR, HELD, LIST, WAY, ("box", INT), ("vec", PAIR), ("box", ("vec", ("box", WAY)))):
            with self.subTest(kind):
                self.assertIs(is_kind(BOOK, kind), True)
                self.assertIs(is_data(BOOK, kind), True)

    def test_reference_kinds(self):
        for word in ("ref", "mut"):
            for within in (INT, BOOL, PAIR, LIST, ("box", INT), ("vec", ("box", HELD))):
                kind = (word, within)
                with self.subTest(kind):
                    self.assertIs(is_kind(BOOK, kind), True)
                    self.assertIs(is_data(BOOK, kind), False)
                    for around in ("ref", "mut", "box", "vec"):
                        self.assertIs(is_kind(BOOK, (around, kind)), False)
                        self.assertIs(is_data(BOOK, (around, kind)), False)
                        self.assertIs(is_kind(BOOK, (around, ("box", kind))), False)

    def test_numbers_that_there_are_not(self):
        for kind in (("record", 2), ("variant", 2), ("record", -1), ("variant", -1), ("record", True),
                     ("variant", False),
                     ("record", None), ("record", "1"), ("record", 2 ** 40), ("record", (1,))):
            for thing in (kind, ("box", kind), ("ref", kind), ("vec", ("box", kind)), ("mut", ("vec", kind))):
                with self.subTest(thing):
                    self.assertIs(is_kind(BOOK, thing), False)
                    self.assertIs(is_data(BOOK, thing), False)
        for kind in (("record", 0), ("variant", 0)):
            self.assertIs(is_kind(EMPTY, kind), False)
            self.assertIs(is_data(EMPTY, kind), False)

    def test_other_things(self):
        for kind in (INT, PAIR, ("box", PAIR), ("vec", ("box", LIST)), ("ref", ("vec", WAY))):
            for thing in [*replaced(kind, NOTHING + ((), ((),))), *longer(kind, NOTHING + ((), INT))]:
                with self.subTest(thing):
                    self.assertIs(is_kind(BOOK, thing), False)
                    self.assertIs(is_data(BOOK, thing), False)
        for thing in (("named", "pair"), ("ref",), ("mut",), ("ref", INT, INT), ("box", INT, INT), deep_thing(5000)):
            self.assertIs(is_kind(BOOK, thing), False)
            self.assertIs(is_data(BOOK, thing), False)

    def test_how_deep_they_are(self):
        for word in ("box", "vec"):
            for within in (INT, BOOL, PAIR, LIST):
                self.assertIs(is_kind(BOOK, deep_kind(word, 11, within)), True)
                self.assertIs(is_data(BOOK, deep_kind(word, 11, within)), True)
                self.assertIs(is_kind(BOOK, deep_kind(word, 12, within)), False)
                self.assertIs(is_data(BOOK, deep_kind(word, 12, within)), False)
                for reference in ("ref", "mut"):
                    self.assertIs(is_kind(BOOK, (reference, deep_kind(word, 10, within))), True)
                    self.assertIs(is_kind(BOOK, (reference, deep_kind(word, 11, within))), False)
            self.assertIs(is_kind(BOOK, deep_kind(word, 5000)), False)
            self.assertIs(is_data(BOOK, deep_kind(word, 5000)), False)

    def test_a_book_that_is_none(self):
        for book in NOTHING + ((), ((),), ((), (), ()), (((), None), ()), ((), ((),)), (((("record", 0),),), ())):
            for kind in (INT, ("box", INT), ("ref", INT)):
                with self.subTest((book, kind)):
                    self.assertIs(is_kind(book, kind), False)
                    self.assertIs(is_data(book, kind), False)

    def test_which_kinds_are_copied(self):
        for kind in (INT, BOOL, ("ref", INT), ("ref", PAIR), ("ref", ("box", INT))):
            self.assertIs(is_copied(kind), True)
        for kind in (PAIR, LIST, ("box", INT), ("vec", INT), ("box", BOOL), ("mut", INT), ("mut", PAIR),
                     ("vec", ("box", INT))):
            self.assertIs(is_copied(kind), False)


if __name__ == "__main__":
    unittest.main()
