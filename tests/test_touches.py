"""Points 5.1 and 5.2: what statements and ways touch, in order, and which places overlap."""

import unittest

from helpers import BOOK, BOOL, INT, LIST, PAIR
from mir_helpers import (
    B, BL, DEREF, H, I, JOIN, KINDS, L, ML, MV, P, P2, R, RETURN, RH, RI, RP, T, TRUE, V, VB, VP, W, ZERO, copied,
    deep_item, field, item, program_of, put, whole,
)
from oneowner.mir import is_mir, kind_of_operand, kind_of_place
from oneowner.touches import overlap, touches


def read(place):
    return ("read", place)


def change(place):
    return ("change", place)


def take(local):
    return ("take", (local, ()))


def behind(local):
    """What the reference that is a local lends."""
    return (local, (DEREF,))


# Further locals, whose items have something to index or to switch on.
MORE = KINDS + (("vec", ("vec", PAIR)), ("mut", ("vec", ("vec", PAIR))), ("vec", LIST))
VV, MVV, VL = range(len(KINDS), len(MORE))
# Operands of each sort with what they touch.
OPERANDS = (
    (ZERO, ()),
    (TRUE, ()),
    (copied(I), (read(whole(I)),)),
    (copied(T), (read(whole(T)),)),
    (("copy", field(P, 1)), (read(field(P, 1)),)),
    (("copy", (B, (DEREF,))), (read((B, (DEREF,))),)),
    (("copy", (RP, (DEREF, ("field", 0)))), (read((RP, (DEREF, ("field", 0)))),)),
    (("copy", behind(RI)), (read(behind(RI)),)),
    (("copy", item(V, ZERO)), (read(item(V, ZERO)),)),
    (("copy", item(V, copied(I))), (read(whole(I)), read(item(V, copied(I))))),
    (("copy", item(V, ("copy", item(V, copied(I))))),
     (read(whole(I)), read(item(V, copied(I))), read(item(V, ("copy", item(V, copied(I))))))),
    (("copy", (MV, (DEREF, ("index", ("copy", behind(RI)))))),
     (read(behind(RI)), read((MV, (DEREF, ("index", ("copy", behind(RI)))))))),
    (("move", P), (take(P),)),
    (("move", V), (take(V),)),
    (("move", BL), (take(BL),)),
    (copied(RI), (read(behind(RI)), read(whole(RI)))),
    (copied(RH), (read(behind(RH)), read(whole(RH)))),
    (("move", MV), (change(behind(MV)), take(MV))),
    (("move", ML), (change(behind(ML)), take(ML))),
)


class TouchTest(unittest.TestCase):

    def check(self, statement, *found):
        with self.subTest(statement):
            self.assertEqual(touches(statement, MORE), list(found))

    def test_operands(self):
        for operand, found in OPERANDS:
            kind = kind_of_operand(BOOK, KINDS, operand)
            # Further locals: what the operand, a box of it and a vec of it go to.
            kinds = KINDS + (kind, ("box", kind), ("vec", kind))
            same, box, vec = range(len(KINDS), len(kinds))
            rows = [(put(same, ("use", operand)), same), (("call", I, 0, (operand,)), I)]
            if kind[0] not in ("ref", "mut"):
                rows.extend([(put(box, ("box", operand, kind)), box), (("push", whole(vec), operand), vec)])
            if kind == BOOL:
                rows.append((put(T, ("not", operand)), T))
                self.check(("branch", operand, 1, 2), *found)
            if kind in (INT, BOOL):
                self.check(("show", operand), *found)
            for statement, local in rows:
                with self.subTest(statement):
                    self.assertEqual(touches(statement, kinds), [*found, change(whole(local))])

    def test_operands_from_left_to_right(self):
        for one, found in OPERANDS:
            for other, more in [row for row in OPERANDS if row[0] != one]:
                kinds = tuple(kind_of_operand(BOOK, KINDS, operand) for operand in (one, other))
                self.check(("call", I, 0, (one, ZERO, other)), *found, *more, change(whole(I)))
                if kinds == (INT, INT):
                    self.check(put(I, ("op", "+", one, other)), *found, *more, change(whole(I)))
                    self.check(put(T, ("op", "<", one, other)), *found, *more, change(whole(T)))
                if kinds == (INT, BOOL):
                    self.check(put(P2, ("record", 0, (one, other))), *found, *more, change(whole(P2)))
                if kinds in ((INT, ("box", LIST)), (BOOL, PAIR)):
                    self.check(put(L, ("variant", 0, 1 if kinds[0] == INT else 2, (one, other))), *found, *more,
                               change(whole(L)))
        self.check(put(H, ("record", 1, (("move", B), ("move", VP), ("move", L)))), take(B), take(VP), take(L),
                   change(whole(H)))

    def test_a_use_of_a_reference_twice(self):
        self.check(("call", RI, 3, (copied(RI), copied(RI))), read(behind(RI)), read(whole(RI)), read(behind(RI)),
                   read(whole(RI)), change(whole(RI)))
        self.check(put(RI, ("use", copied(RI))), read(behind(RI)), read(whole(RI)), change(whole(RI)))
        self.check(put(MV, ("use", ("move", MV))), change(behind(MV)), take(MV), change(whole(MV)))

    def test_set(self):
        self.check(put(I, ("use", ZERO)), change(whole(I)))
        self.check(("set", field(P, 0), ("use", copied(I))), read(whole(I)), change(field(P, 0)))
        self.check(("set", (MV, (DEREF, ("index", ZERO))), ("use", ZERO)), change((MV, (DEREF, ("index", ZERO)))))
        self.check(("set", behind(RI), ("use", ZERO)), change(behind(RI)))
        self.check(put(RI, ("lend", "ref", whole(I))), read(whole(I)), change(whole(RI)))

    def test_the_indexes_of_a_sets_place_come_behind_its_right_side(self):
        place = item(V, copied(I))
        self.check(("set", place, ("use", ("copy", field(P, 0)))), read(field(P, 0)), read(whole(I)), change(place))
        self.check(("set", place, ("len", item(VV, copied(I)))), read(whole(I)), read(item(VV, copied(I))),
                   read(whole(I)),
                   change(place))
        self.check(("set", place, ("unbox", B)), take(B), read(whole(I)), change(place))
        self.check(("set", place, ("op", "+", ("copy", field(P2, 0)), copied(R))), read(field(P2, 0)), read(whole(R)),
                   read(whole(I)), change(place))
        place = (VP, (("index", ("copy", item(V, copied(I)))), ("field", 0)))
        self.check(("set", place, ("len", whole(V))), read(whole(V)), read(whole(I)), read(item(V, copied(I))),
                   change(place))
        place = (VB, (("index", copied(I)), DEREF))
        self.check(("set", place, ("use", ("move", P))), take(P), read(whole(I)), change(place))

    def test_rvalues(self):
        self.check(put(I, ("unbox", B)), take(B), change(whole(I)))
        self.check(put(V, ("vec", INT)), change(whole(V)))
        self.check(put(W, ("variant", 1, 0, ())), change(whole(W)))
        self.check(put(I, ("len", whole(V))), read(whole(V)), change(whole(I)))
        self.check(put(I, ("len", behind(MV))), read(behind(MV)), change(whole(I)))
        self.check(put(I, ("len", item(VV, copied(I)))), read(whole(I)), read(item(VV, copied(I))), change(whole(I)))

    def test_lending(self):
        for word, touch in (("ref", read), ("mut", change)):
            for place in (whole(P), field(H, 2), behind(ML), (ML, (DEREF, ("part", 1, 1), DEREF)), item(V, ZERO)):
                kinds = KINDS + ((word, kind_of_place(BOOK, KINDS, place)),)
                found = touches(put(len(KINDS), ("lend", word, place)), kinds)
                self.assertEqual(found, [touch(place), change(whole(len(KINDS)))])
            place = (VB, (("index", copied(I)), DEREF))
            found = touches(put(len(KINDS), ("lend", word, place)), KINDS + ((word, PAIR),))
            self.assertEqual(found, [read(whole(I)), touch(place), change(whole(len(KINDS)))])

    def test_opening_and_unpack(self):
        self.check(("open", P, (I, T)), take(P), change(whole(I)), change(whole(T)))
        self.check(("open", H, (B, VP, L)), take(H), change(whole(B)), change(whole(VP)), change(whole(L)))
        self.check(("open", P, (T, I)), take(P), change(whole(T)), change(whole(I)))
        self.check(("unpack", L, 2, (T, P)), take(L), change(whole(T)), change(whole(P)))
        self.check(("unpack", L, 0, ()), take(L))

    def test_push_and_take(self):
        place = (MVV, (DEREF, ("index", copied(I))))
        self.check(("push", item(VV, copied(I)), ("move", P)), take(P), read(whole(I)), change(item(VV, copied(I))))
        self.check(("push", place, ("move", P)), take(P), read(whole(I)), change(place))
        self.check(("push", whole(V), ("copy", item(V, copied(I)))), read(whole(I)), read(item(V, copied(I))),
                   change(whole(V)))
        self.check(("push", behind(MV), ZERO), change(behind(MV)))
        self.check(("take", I, whole(V)), change(whole(V)), change(whole(I)))
        self.check(("take", I, behind(MV)), change(behind(MV)), change(whole(I)))
        self.check(("take", P, place), read(whole(I)), change(place), change(whole(P)))

    def test_drop_and_end(self):
        for word in ("drop", "end"):
            for local in range(len(KINDS)):
                if KINDS[local][0] in ("ref", "mut"):
                    self.check((word, local))
                else:
                    self.check((word, local), take(local))

    def test_calls(self):
        self.check(("call", I, 0, ()), change(whole(I)))
        self.check(("call", P, 1, (copied(I), ("move", P), copied(RP), ("move", MV))), read(whole(I)), take(P),
                   read(behind(RP)), read(whole(RP)), change(behind(MV)), take(MV), change(whole(P)))
        self.check(("call", RI, 3, (copied(RH), ("copy", item(V, copied(I))))), read(behind(RH)), read(whole(RH)),
                   read(whole(I)), read(item(V, copied(I))), change(whole(RI)))

    def test_ways(self):
        self.check(("go", 1))
        self.check(("par", 1, 2, 3))
        self.check(JOIN)
        self.check(RETURN, take(0))
        self.check(("branch", copied(T), 1, 2), read(whole(T)))
        self.check(("branch", TRUE, 1, 2))
        self.check(("switch", whole(L), (1, 2, 3)), read(whole(L)))
        self.check(("switch", behind(ML), (1, 2, 3)), read(behind(ML)))
        self.check(("switch", (RH, (DEREF, ("field", 2))), (1, 2, 3)), read((RH, (DEREF, ("field", 2)))))
        place = item(VL, ("copy", item(V, copied(I))))
        self.check(("switch", place, (1, 2, 3)), read(whole(I)), read(item(V, copied(I))), read(place))

    def test_a_return_of_a_reference(self):
        for kind in (("ref", INT), ("mut", PAIR)):
            self.assertEqual(touches(RETURN, (kind, kind)), [take(0)])

    def test_several_indexes_in_a_place(self):
        kinds = (INT, ("vec", ("vec", ("vec", INT))), INT, INT, INT)
        place = (1, (("index", copied(2)), ("index", copied(3)), ("index", copied(4))))
        found = [read(whole(2)), read(whole(3)), read(whole(4)), read(place)]
        self.assertEqual(touches(("show", ("copy", place)), kinds), found)
        self.assertEqual(touches(put(0, ("use", ("copy", place))), kinds), found + [change(whole(0))])
        self.assertEqual(touches(("set", place, ("use", ZERO)), kinds), found[:3] + [change(place)])
        self.assertEqual(touches(("take", 0, place), kinds), found[:3] + [change(place), change(whole(0))])

    def test_places_within_the_indexes_of_places(self):
        many = 3000
        found = touches(("show", ("copy", deep_item(V, copied(I), many))), MORE)
        self.assertEqual(len(found), many + 2)
        self.assertEqual(found[:3], [read(whole(I)), read(item(V, copied(I))),
                                     read(item(V, ("copy", item(V, copied(I)))))])
        self.assertTrue(all(way == "read" for way, _ in found))

    def test_indexes_of_several_places_within_a_place(self):
        inner = (VV, (("index", copied(I)), ("index", copied(R)), ("field", 0)))
        place = (MVV, (DEREF, ("index", ("copy", inner)), ("index", ("copy", item(V, copied(I)))), ("field", 0)))
        self.check(("show", ("copy", place)), read(whole(I)), read(whole(R)), read(inner), read(whole(I)),
                   read(item(V, copied(I))), read(place))
        self.check(("set", place, ("use", copied(R))), read(whole(R)), read(whole(I)), read(whole(R)), read(inner),
                   read(whole(I)), read(item(V, copied(I))), change(place))

    def test_the_list_is_a_new_one(self):
        statement = put(I, ("use", ZERO))
        touches(statement, KINDS).clear()
        self.check(statement, change(whole(I)))
        self.assertTrue(is_mir(program_of(statement)))


class OverlapTest(unittest.TestCase):

    def check(self, one, other, wanted):
        with self.subTest((one, other)):
            self.assertIs(overlap(one, other), wanted)
            self.assertIs(overlap(other, one), wanted)

    def test_locals(self):
        self.check(whole(1), whole(1), True)
        self.check(whole(1), whole(2), False)
        self.check(field(1, 0), whole(2), False)
        self.check(field(1, 0), field(2, 0), False)

    def test_beginnings_of_each_other(self):
        places = (whole(1), field(1, 3), (1, (("field", 3), DEREF)), (1, (("field", 3), DEREF, ("index", ZERO))),
                  (1, (("field", 3), DEREF, ("index", ZERO), ("part", 1, 2))))
        for one in places:
            for other in places:
                self.check(one, other, True)

    def test_fields(self):
        self.check(field(1, 0), field(1, 0), True)
        self.check(field(1, 0), field(1, 1), False)
        self.check(field(1, 0, 1), field(1, 0, 2), False)
        self.check(field(1, 0, 1), field(1, 0), True)
        self.check(field(1, 0, 1), field(1, 1), False)
        self.check(field(1, 0, 1, 2), field(1, 0, 2, 2), False)

    def test_indexes_count_as_equal(self):
        self.check(item(1, ZERO), item(1, ZERO), True)
        self.check(item(1, ZERO), item(1, ("num", 1)), True)
        self.check(item(1, ZERO), item(1, copied(2)), True)
        self.check((1, (("index", ZERO), ("field", 0))), (1, (("index", copied(3)), ("field", 0))), True)
        self.check((1, (("index", ZERO), ("field", 0))), (1, (("index", ZERO), ("field", 1))), False)
        self.check((1, (DEREF, ("index", ZERO), DEREF)), (1, (DEREF, ("index", copied(3)))), True)

    def test_parts(self):
        for tag, at, other_tag, other_at, wanted in (
            (1, 0, 1, 0, True), (1, 0, 1, 1, False), (1, 0, 2, 0, True), (1, 0, 2, 1, True), (0, 1, 1, 0, True),
            (2, 1, 2, 0, False), (2, 1, 2, 1, True), (0, 2, 2, 2, True),
        ):
            self.check((1, (("part", tag, at),)), (1, (("part", other_tag, other_at),)), wanted)
            self.check((1, (DEREF, ("part", tag, at), DEREF)), (1, (DEREF, ("part", other_tag, other_at))), wanted)
        self.check((1, (("part", 1, 0), ("field", 0))), (1, (("part", 2, 1), ("field", 1))), False)
        self.check((1, (("part", 1, 0), ("field", 0))), (1, (("part", 2, 1), ("field", 0))), True)

    def test_derefs(self):
        self.check((1, (DEREF,)), (1, (DEREF,)), True)
        self.check((1, (DEREF,)), whole(1), True)
        self.check((1, (DEREF, ("field", 0))), (1, (DEREF, ("field", 1))), False)
        self.check((1, (DEREF, ("field", 0))), (1, (DEREF,)), True)


if __name__ == "__main__":
    unittest.main()
