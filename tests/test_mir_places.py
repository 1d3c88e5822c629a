"""Points 4.2, 4.3 and 4.7: the kinds of places and operands."""

import unittest

from helpers import BOOK, BOOL, HELD, INT, LIST, PAIR, deep_kind, deep_thing, longer, replaced
from mir_helpers import (
    B, BL, DEREF, H, I, KINDS, L, ML, MV, P, RH, RI, RP, T, TRUE, V, VB, VP, W, ZERO, copied, deep_item,
    field, item, program_of, whole,
)
from oneowner.mir import is_mir, kind_of_operand, kind_of_place

OTHERS = (None, True, False, -1, 2 ** 32, 200, "x", ((),), ("x",))


class PlaceTest(unittest.TestCase):

    def kind(self, *rows):
        for place, kind in rows:
            with self.subTest(place):
                self.assertEqual(kind_of_place(BOOK, KINDS, place), kind)
                if kind in (INT, BOOL) or kind[0] == "ref":
                    self.assertEqual(kind_of_operand(BOOK, KINDS, ("copy", place)), kind)
                else:
                    self.assertIsNone(kind_of_operand(BOOK, KINDS, ("copy", place)))

    def none(self, *places):
        for place in places:
            with self.subTest(place):
                self.assertIsNone(kind_of_place(BOOK, KINDS, place))
                self.assertIsNone(kind_of_operand(BOOK, KINDS, ("copy", place)))

    def test_whole_locals(self):
        self.kind(*[((local, ()), KINDS[local]) for local in range(len(KINDS))])
        self.none(*[(local, ()) for local in (-1, len(KINDS), 2 ** 32, True, False, None, "0", (), (0,))])

    def test_fields(self):
        self.kind((field(P, 0), INT), (field(P, 1), BOOL), (field(H, 0), ("box", INT)), (field(H, 1), ("vec", PAIR)),
                  (field(H, 2), LIST))
        self.none(field(P, 2), field(P, -1), field(H, 3), field(P, True), field(P, False), field(P, None),
                  field(P, "0"), field(P, "one"), field(P, (0,)), field(P, 0, 0), *[field(local, 0) for local in (
                      I, T, L, W, B, V, RI, RP, RH, ML, MV)])

    def test_derefs(self):
        self.kind(((B, (DEREF,)), INT), ((BL, (DEREF,)), LIST), ((RI, (DEREF,)), INT), ((RP, (DEREF,)), PAIR),
                  ((RH, (DEREF,)), HELD), ((MV, (DEREF,)), ("vec", INT)), ((ML, (DEREF,)), LIST))
        self.none(*[(local, (DEREF,)) for local in (I, T, P, H, L, W, V, VB, VP)], (B, (DEREF, DEREF)),
                  (RI, (DEREF, DEREF)), (BL, (DEREF, DEREF)))

    def test_indexes(self):
        self.kind((item(V, ZERO), INT), (item(V, ("num", 2 ** 32 - 1)), INT), (item(VP, copied(I)), PAIR),
                  (item(VB, ("copy", field(P, 0))), ("box", PAIR)), (item(V, ("copy", item(V, ZERO))), INT),
                  (item(V, ("copy", (RI, (DEREF,)))), INT), (item(V, ("copy", item(V, ("copy", item(V, copied(I)))))),
                                                             INT))
        self.none(*[item(local, ZERO) for local in (I, T, P, H, L, B, RI, MV, ML)],
                  *[item(V, operand) for operand in (
                      TRUE, copied(T), copied(P), copied(RI), ("move", I), ("move", V), ("move", P), ("num", -1),
                      ("num", True), ("num", 2 ** 32), 0, I, None, (), ("copy", item(V, TRUE)), ("copy", item(P, ZERO)),
                      ("copy", item(V, ("copy", item(V, copied(T))))), whole(I),
                  )])

    def test_parts(self):
        self.kind(((L, (("part", 1, 0),)), INT), ((L, (("part", 1, 1),)), ("box", LIST)),
                  ((L, (("part", 2, 0),)), BOOL),
                  ((L, (("part", 2, 1),)), PAIR))
        self.none(*[(L, (("part", tag, at),)) for tag, at in (
            (0, 0), (1, 2), (2, 2), (3, 0), (1, -1), (-1, 0), (True, 0), (1, True), (1, False), (None, 0), (1, None),
            ("1", 0), (1, "0"), ((1,), 0), (1, (0,)),
        )], (W, (("part", 0, 0),)), *[(local, (("part", 1, 0),)) for local in (I, P, B, V, ML, BL, RI)])

    def test_projections_behind_each_other(self):
        self.kind(
            ((H, (("field", 0), DEREF)), INT),
            ((H, (("field", 1), ("index", ZERO), ("field", 1))), BOOL),
            ((H, (("field", 2), ("part", 1, 1), DEREF)), LIST),
            ((H, (("field", 2), ("part", 1, 1), DEREF, ("part", 2, 1), ("field", 0))), INT),
            ((RH, (DEREF, ("field", 2))), LIST),
            ((RH, (DEREF, ("field", 0))), ("box", INT)),
            ((ML, (DEREF, ("part", 1, 1), DEREF, ("part", 1, 0))), INT),
            ((MV, (DEREF, ("index", copied(I)))), INT),
            ((VB, (("index", ZERO), DEREF, ("field", 1))), BOOL),
        )
        self.none((H, (("field", 0), ("field", 0))), (H, (DEREF, ("field", 0))), (RH, (("field", 2), DEREF)),
                  (VB, (DEREF, ("index", ZERO))), (P, (("field", 0), DEREF)), (H, (("field", 3), DEREF)),
                  (P, (None, ("field", 0))), (P, (("field", 0), None)), (RH, (DEREF, DEREF, ("field", 0))))

    def test_at_most_8_projections(self):
        steps = (("part", 1, 1), DEREF)
        self.kind(((L, steps * 4), LIST), ((L, steps * 3 + (("part", 1, 1),)), ("box", LIST)),
                  ((L, steps * 3 + (("part", 1, 1), DEREF)), LIST))
        self.none((L, steps * 4 + (("part", 1, 1),)), (L, steps * 5), (L, steps * 100))
        kinds = (deep_kind("box", 9), ("mut", deep_kind("box", 9)))
        self.assertEqual(kind_of_place(BOOK, kinds, (0, (DEREF,) * 8)), ("box", INT))
        self.assertIsNone(kind_of_place(BOOK, kinds, (0, (DEREF,) * 9)))
        self.assertEqual(kind_of_place(BOOK, kinds, (1, (DEREF,) * 8)), ("box", ("box", INT)))
        self.assertIsNone(kind_of_place(BOOK, kinds, (1, (DEREF,) * 9)))

    def test_other_things(self):
        self.none(None, True, 0, "x", "ab", (), (0,), ((0, ()),), (0, (), ()), (0, None), (0, 0), (0, "x"), (0, True),
                  ((), 0), (0, ("field", 0)), (P, (("field",),)), (P, (("field", 0, 0),)), (B, (("deref", 0),)),
                  (B, ("deref",)), (B, (("deref", ()),)), (V, (("index",),)), (V, (("index", ZERO, ZERO),)),
                  (L, (("part", 1),)), (L, (("part",),)), (L, (("part", 1, 0, 0),)), (P, (("x", 0),)), (P, ((0,),)),
                  (P, ((),)),
                  (P, (0,)), (P, ("field",)), (L, (("part", (1, 0)),)))
        # Compared without a message, as the depth is too much for one.
        self.assertTrue(kind_of_place(BOOK, KINDS, deep_thing(5000)) is None)
        self.assertTrue(kind_of_place(BOOK, KINDS, (0, deep_thing(5000))) is None)
        self.assertTrue(kind_of_place(BOOK, KINDS, (V, (("index", deep_thing(5000)),))) is None)
        self.assertTrue(kind_of_operand(BOOK, KINDS, deep_thing(5000)) is None)

    def test_places_within_the_indexes_of_places(self):
        for many in (1, 40, 3000):
            # Compared without a message, as the depth is too much for one.
            self.assertTrue(kind_of_place(BOOK, KINDS, deep_item(V, ZERO, many)) == INT)
            self.assertTrue(kind_of_operand(BOOK, KINDS, ("copy", deep_item(V, copied(I), many))) == INT)
            for operand in (TRUE, copied(T), copied(P), ("copy", field(P, 1)), ("copy", field(P, 2)), ("move", V),
                            None):
                self.assertTrue(kind_of_place(BOOK, KINDS, deep_item(V, operand, many)) is None)
                self.assertTrue(kind_of_operand(BOOK, KINDS, ("copy", deep_item(V, operand, many))) is None)
            self.assertIs(is_mir(program_of(("show", ("copy", deep_item(V, ZERO, many))))), True)
            self.assertIs(is_mir(program_of(("show", ("copy", deep_item(V, TRUE, many))))), False)

    def test_something_else_at_each_place(self):
        for place in (field(P, 1), (H, (("field", 1), ("index", copied(I)), ("field", 1))),
                      (H, (("field", 2), ("part", 1, 1), DEREF, ("part", 2, 1), ("field", 0)))):
            for other in [*replaced(place, OTHERS), *longer(place, (None, True, "x", 0))]:
                self.none(other)


class OperandTest(unittest.TestCase):

    def kind(self, *rows):
        for operand, kind in rows:
            with self.subTest(operand):
                self.assertEqual(kind_of_operand(BOOK, KINDS, operand), kind)

    def none(self, *operands):
        for operand in operands:
            with self.subTest(operand):
                self.assertIsNone(kind_of_operand(BOOK, KINDS, operand))

    def test_numbers_and_truths(self):
        self.kind((ZERO, INT), (("num", 1), INT), (("num", 2 ** 32 - 1), INT), (TRUE, BOOL), (("truth", False), BOOL))
        self.none(("num", -1), ("num", 2 ** 32), ("num", True), ("num", False), ("num", None), ("num", "1"),
                  ("num", (1,)),
                  ("truth", 0), ("truth", 1), ("truth", None), ("truth", "True"), ("truth", (True,)), ("num",),
                  ("truth",),
                  ("num", 0, 0), ("truth", True, True), ("bool", True), ("int", 0), 0, True)

    def test_copies(self):
        self.kind((copied(I), INT), (copied(T), BOOL), (copied(RI), ("ref", INT)), (copied(RP), ("ref", PAIR)),
                  (("copy", field(P, 1)), BOOL), (("copy", (RH, (DEREF, ("field", 0), DEREF))), INT))
        self.none(*[copied(local) for local in (P, H, L, W, B, V, MV, ML, BL, VP)], ("copy", field(H, 0)),
                  ("copy", (BL, (DEREF,))), ("copy", (RP, (DEREF,))), ("copy", (MV, (DEREF,))), ("copy", I),
                  ("copy", -1),
                  ("copy",), ("copy", whole(I), whole(I)), ("copy", None), ("copy", (200, ())), ("copy", ()))

    def test_moves(self):
        self.kind(*[(("move", local), KINDS[local]) for local in (P, H, L, W, B, V, VB, MV, ML, BL, VP)])
        self.none(*[("move", local) for local in (I, T, RI, RH, RP, -1, len(KINDS), True, None, "3", (), (P,),
                                                  2 ** 32)],
                  ("move", whole(P)), ("move",), ("move", P, P), ("move", field(H, 0)))

    def test_other_things(self):
        self.none(None, True, False, 0, "x", "", (), ((),), (0,), (0, 0), (None, None), whole(I), ("x", 0), ("x",),
                  (ZERO,),
                  ("use", copied(I)), ("ref", whole(I)), "num", ("num", ("num", 0)))
        for operand in (ZERO, TRUE, copied(I), ("move", P), ("copy", item(V, copied(I)))):
            for other in [*replaced(operand, (None, -1, 2 ** 32, "x")), *longer(operand, (None, 0, "x", True))]:
                self.none(other)


if __name__ == "__main__":
    unittest.main()
