"""Points 3.5 and 3.6: sizes, places and values."""

import unittest

from helpers import BOOK, BOOL, HELD, INT, LIST, PAIR, WAY, deep_thing, longer, replaced
from oneowner.kinds import field_place, is_value, part_place, size_of

# Each field and part has its size beside it.
RECORDS = (
    (),
    (INT, BOOL, ("box", ("vec", INT)), ("vec", BOOL)),     # 1 1 1 3
    (("record", 1), INT, ("record", 0), ("variant", 1)),   # 6 1 0 5
    (("variant", 0), ("variant", 0), ("record", 0)),       # 1 1 0
    (("vec", ("record", 4)), ("box", ("record", 4))),      # 3 1
)
VARIANTS = (
    ((), (), ()),
    ((INT,), (), (INT, ("vec", INT)), (BOOL, BOOL)),       # 1 and the greatest of 1 0 4 2
    ((("record", 2), ("variant", 1), INT), (("record", 0),)),
)
MIXED = (RECORDS, VARIANTS)
NEVER = (None, -1, 2 ** 32, "x", ("record",), ("x", ()))


class SizeTest(unittest.TestCase):

    def test_sizes(self):
        for kind, size in (
            (INT, 1), (BOOL, 1), (("box", INT), 1), (("box", ("record", 2)), 1), (("vec", INT), 3),
            (("vec", ("record", 2)), 3), (("ref", INT), 1), (("mut", INT), 1), (("ref", ("record", 2)), 1),
            (("mut", ("vec", ("record", 1))), 1),
            (("record", 0), 0), (("record", 1), 6), (("record", 2), 12), (("record", 3), 2), (("record", 4), 4),
            (("variant", 0), 1), (("variant", 1), 5), (("variant", 2), 19),
        ):
            with self.subTest(kind):
                self.assertEqual(size_of(MIXED, kind), size)
        self.assertEqual(size_of(((), ()), ("vec", BOOL)), 3)

    def test_places_of_fields(self):
        for number, places in ((1, (0, 1, 2, 3)), (2, (0, 6, 7, 7)), (3, (0, 1, 2)), (4, (0, 3))):
            for at in range(len(places)):
                self.assertEqual(field_place(MIXED, number, at), places[at])

    def test_places_of_parts(self):
        for number, tag, places in (
            (1, 0, (1,)), (1, 2, (1, 2)), (1, 3, (1, 2)), (2, 0, (1, 13, 18)), (2, 1, (1,)),
        ):
            for at in range(len(places)):
                self.assertEqual(part_place(MIXED, number, tag, at), places[at])

    def test_records_of_nothing_40_deep(self):
        book = (((),) + tuple((("record", at),) * 20 for at in range(39)), ())
        self.assertEqual(size_of(book, ("record", 39)), 0)
        self.assertEqual(field_place(book, 39, 19), 0)

    def test_variants_within_variants(self):
        book = ((), tuple(((("variant", at + 1),), ()) for at in range(39)) + (((INT,),),))
        self.assertEqual(size_of(book, ("variant", 39)), 2)
        self.assertEqual(size_of(book, ("variant", 0)), 41)


class ValueTest(unittest.TestCase):

    def right(self, kind, *things):
        for thing in things:
            with self.subTest((kind, thing)):
                self.assertIs(is_value(BOOK, kind, thing), True)

    def wrong(self, kind, *things):
        for thing in things:
            with self.subTest((kind, thing)):
                self.assertIs(is_value(BOOK, kind, thing), False)

    def test_words(self):
        self.right(INT, 0, 1, 2, 2 ** 31, 2 ** 32 - 1)
        self.wrong(INT, True, False, -1, 2 ** 32, 2 ** 64, None, "1", "", (), (1,), ("num", 1), ("int", 1))

    def test_truths(self):
        self.right(BOOL, True, False)
        self.wrong(BOOL, 0, 1, None, "True", "", (), (True,), ("truth", True))

    def test_records(self):
        self.right(PAIR, ("record", (0, True)), ("record", (2 ** 32 - 1, False)))
        self.wrong(PAIR, ("record", (0, 1)), ("record", (True, True)), ("record", (0,)), ("record", (0, True, 0)),
                   ("record", ()), ("record", 0, True), ("record", 0, (0, True)), ("record",), ("variant", (0, True)),
                   (0, True), ("box", (0, True)), "record", None, 0, ("record", (True, 0)), ("record", None),
                   ("record", 0), ("record", "ab"), ("record", ((0, True),)))
        self.assertIs(is_value((((),), ()), ("record", 0), ("record", ())), True)
        self.assertIs(is_value((((),), ()), ("record", 0), ()), False)
        self.assertIs(is_value((((),), ()), ("record", 0), ("record", (0,))), False)

    def test_variants(self):
        none = ("variant", 0, ())
        self.right(LIST, none, ("variant", 1, (1, ("box", none))), ("variant", 2, (True, ("record", (1, False)))))
        self.right(WAY, none, ("variant", 1, ()))
        self.wrong(LIST, ("variant", False, ()), ("variant", 3, ()), ("variant", -1, ()), ("variant", None, ()),
                   ("variant", "0", ()), ("variant", 0, (1,)), ("variant", 1, ()), ("variant", 1, (1,)),
                   ("variant", 1, (1, none)), ("variant", 1, (True, ("box", none))), ("variant", 1, (("box", none), 1)),
                   ("variant", 2, (1, ("box", none))), ("variant", 1, (1, ("box", none), 0)), ("variant", 0),
                   ("variant", ()), ("variant", 0, (), ()), ("variant", 0, None), ("variant", 0, 0), ("record", 0, ()),
                   ("variant", 0, 0, ()), (0, ()), 0, None, "variant", ("variant", True, (1, ("box", none))))
        self.wrong(WAY, ("variant", 2, ()), ("variant", True, ()))

    def test_boxes(self):
        self.right(("box", INT), ("box", 0))
        self.right(("box", ("box", BOOL)), ("box", ("box", True)))
        self.right(("box", PAIR), ("box", ("record", (0, True))))
        self.wrong(("box", INT), 0, ("box",), ("box", True), ("box", 0, 0), ("box", (0,)), ("vec", 0), ("vec", (0,)),
                   ("box", ("box", 0)), (0,), None, "box", ("box", -1), ("box", 2 ** 32))
        self.wrong(("box", PAIR), ("box", ("record", (0, 1))), ("box", ("record", (0,))))

    def test_vecs(self):
        self.right(("vec", INT), ("vec", ()), ("vec", (0,)), ("vec", (0, 1, 2 ** 32 - 1)), ("vec", (7,) * 1000))
        self.right(("vec", ("vec", BOOL)), ("vec", (("vec", ()), ("vec", (True, False)))))
        self.wrong(("vec", INT), (), ("vec",), ("vec", 0), ("vec", None), ("vec", "01"), ("vec", (True,)),
                   ("vec", ("",)),
                   ("vec", (0, 1, -1)), ("vec", (0,), (0,)), ("vec", (0, (0,))), ("box", (0,)), ("record", (0,)),
                   (0, 1),
                   ("vec", (2 ** 32, 0)), ("vec", (0,) * 100 + (None,)), ("vec", (None,) + (0,) * 100), None, "vec")
        self.wrong(("vec", ("vec", BOOL)), ("vec", (True,)), ("vec", (("vec", (True, 0)),)))

    def test_something_else_at_each_place(self):
        none = ("variant", 0, ())
        pair, box = ("record", (7, True)), ("box", 3)
        rows = ("vec", (pair, ("record", (8, False))))
        for kind, thing in (
            (HELD, ("record", (box, rows, ("variant", 1, (4, ("box", ("variant", 2, (True, pair)))))))),
            (HELD, ("record", (box, ("vec", ()), none))),
            (("vec", ("box", ("box", LIST))), ("vec", (("box", ("box", none)), ("box", ("box", ("variant", 1, (
                5, ("box", none)))))))),
        ):
            self.right(kind, thing)
            for other in [*replaced(thing, NEVER), *longer(thing, NEVER)]:
                self.wrong(kind, other)

    def test_values_within_each_other(self):
        many = 3000
        thing = ("variant", 0, ())
        for at in range(many):
            thing = ("variant", 1, (at, ("box", thing)))
        self.assertIs(is_value(BOOK, LIST, thing), True)
        self.assertIs(is_value(BOOK, ("vec", LIST), ("vec", (("variant", 0, ()), thing))), True)
        thing = ("variant", 0, (0,))
        for at in range(many):
            thing = ("variant", 1, (at, ("box", thing)))
        self.assertIs(is_value(BOOK, LIST, thing), False)
        for kind in (INT, BOOL, PAIR, LIST, ("box", INT), ("vec", INT)):
            self.assertIs(is_value(BOOK, kind, deep_thing(many)), False)


if __name__ == "__main__":
    unittest.main()
