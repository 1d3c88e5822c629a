"""Point 5.7, "there" and "fixed": what a statement or way needs to be there, and what must not be changed."""

import unittest

from helpers import BOOK, BOOL, INT, LIST, PAIR
from judge_helpers import page, refusal, refusal_with, with_page
from mir_helpers import (
    B, BL, DEREF, H, I, JOIN, KINDS, L, ML, MV, P, P2, R, RETURN, RH, RI, RP, T, T2, TRUE, V, VB, VP, W, ZERO, copied,
    field, item, main_of, put, straight, whole,
)
from oneowner.papers import best_paper

MAIN = (0, (INT,), (((put(0, ("use", ZERO)),), RETURN),), ())
LENDER = (2, (("ref", INT), ("ref", INT), ("ref", INT)), (((put(0, ("use", copied(1))),), RETURN),), (1, 2))
IT = 3
# All locals but the result of the function under test, the last one, are params.
MANY = (4, (PAIR, INT, PAIR, ("ref", PAIR), ("mut", ("vec", INT))), (((), ("go", 0)),), ())
R2, MP, RL, RB = range(len(KINDS), len(KINDS) + 4)
ALL = KINDS + (("ref", INT), ("mut", PAIR), ("ref", LIST), ("ref", BOOL))


def with_all(blocks):
    """A program whose last function has all locals as params."""
    return (BOOK, (MAIN, LENDER, MANY, (len(ALL) - 1, ALL, blocks, ())), 0)


def way_alone(way):
    """The blocks of a function that begins with this way."""
    return (((), way), ((), ("go", 1)), ((), ("go", 2)), ((), ("go", 3)))


# What needs which locals to be there, but for the targets.
STATEMENTS = (
    (put(I, ("use", ZERO)), ()),
    (put(P, ("record", 0, (ZERO, TRUE))), ()),
    (put(V, ("vec", INT)), ()),
    (put(I, ("use", copied(I))), (I,)),
    (put(T, ("use", copied(T2))), (T2,)),
    (put(P, ("use", ("move", P2))), (P2,)),
    (put(P, ("use", ("move", P))), (P,)),
    (put(RI, ("use", copied(R2))), (R2,)),
    (put(RI, ("use", copied(RI))), (RI,)),
    (put(MV, ("use", ("move", MV))), (MV,)),
    (put(I, ("use", ("copy", field(P, 0)))), (P,)),
    (put(I, ("use", ("copy", (B, (DEREF,))))), (B,)),
    (put(I, ("use", ("copy", (RI, (DEREF,))))), (RI,)),
    (put(I, ("use", ("copy", item(V, copied(I))))), (I, V)),
    (put(I, ("use", ("copy", item(V, ("copy", field(P, 0)))))), (P, V)),
    (put(I, ("use", ("copy", (MV, (DEREF, ("index", ("copy", (RI, (DEREF,))))))))), (RI, MV)),
    (put(I, ("op", "+", copied(I), ("copy", field(P2, 0)))), (I, P2)),
    (put(T, ("op", "<", ZERO, ("copy", (RI, (DEREF,))))), (RI,)),
    (put(T, ("not", copied(T2))), (T2,)),
    (put(P, ("record", 0, (copied(I), copied(T)))), (I, T)),
    (put(H, ("record", 1, (("move", B), ("move", VP), ("move", L)))), (B, VP, L)),
    (put(L, ("variant", 0, 2, (copied(T), ("move", P)))), (T, P)),
    (put(W, ("variant", 1, 0, ())), ()),
    (put(B, ("box", copied(I), INT)), (I,)),
    (put(BL, ("box", ("move", L), LIST)), (L,)),
    (put(I, ("unbox", B)), (B,)),
    (put(L, ("unbox", BL)), (BL,)),
    (put(RI, ("lend", "ref", whole(I))), (I,)),
    (put(RI, ("lend", "ref", field(P, 0))), (P,)),
    (put(RP, ("lend", "ref", (VB, (("index", copied(I)), DEREF)))), (I, VB)),
    (put(MP, ("lend", "mut", whole(P))), (P,)),
    (put(MP, ("lend", "mut", (MP, (DEREF,)))), (MP,)),
    (put(ML, ("lend", "mut", (BL, (DEREF,)))), (BL,)),
    (put(RI, ("lend", "ref", (RP, (DEREF, ("field", 0))))), (RP,)),
    (put(I, ("len", whole(V))), (V,)),
    (put(I, ("len", (MV, (DEREF,)))), (MV,)),
    (("set", field(P, 0), ("use", copied(I))), (I, P)),
    (("set", item(V, copied(I)), ("use", ZERO)), (I, V)),
    (("set", (MP, (DEREF,)), ("use", ("move", P2))), (MP, P2)),
    (("set", (B, (DEREF,)), ("use", ZERO)), (B,)),
    (("open", P, (I, T)), (P,)),
    (("open", H, (B, VP, L)), (H,)),
    (("unpack", L, 2, (T, P)), (L,)),
    (("unpack", W, 1, ()), (W,)),
    (("push", whole(V), copied(I)), (V, I)),
    (("push", whole(VP), ("move", P)), (VP, P)),
    (("push", (MV, (DEREF,)), ZERO), (MV,)),
    (("push", (H, (("field", 1),)), ("move", P)), (H, P)),
    (("take", I, whole(V)), (V,)),
    (("take", I, (MV, (DEREF,))), (MV,)),
    (("take", P, field(H, 1)), (H,)),
    (("drop", P), ()), (("drop", I), ()), (("drop", RI), ()), (("drop", MV), ()),
    (("end", V), ()), (("end", T), ()), (("end", RP), ()), (("end", ML), ()),
    (("call", I, 0, ()), ()),
    (("call", RI, 1, (copied(R2), copied(RI))), (R2, RI)),
    (("call", P, 2, (copied(I), ("move", P2), copied(RP), ("move", MV))), (I, P2, RP, MV)),
    (("show", copied(I)), (I,)),
    (("show", ("copy", field(P, 1))), (P,)),
    (("show", ZERO), ()),
)
WAYS = (
    (("go", 1), ()),
    (("branch", copied(T), 1, 2), (T,)),
    (("branch", ("copy", field(P, 1)), 1, 2), (P,)),
    (("branch", ("copy", (RB, (DEREF,))), 1, 2), (RB,)),
    (("branch", TRUE, 1, 2), ()),
    (("switch", whole(L), (1, 2, 3)), (L,)),
    (("switch", (RL, (DEREF,)), (1, 2, 3)), (RL,)),
    (("switch", field(H, 2), (1, 2, 3)), (H,)),
)


class NeedTest(unittest.TestCase):

    def check(self, blocks, needed):
        program = with_all(blocks)
        best = best_paper(program)
        there = best[IT][0][0]
        self.assertEqual(there, tuple(range(1, len(ALL))))
        self.assertNotEqual(refusal(program), (IT, 0, 0, "there"))
        for local in there:
            paper = with_page(best, IT, 0, 0, tuple(other for other in there if other != local))
            for at in range(1, len(blocks)):
                paper = with_page(paper, IT, at, 0, ())
            found = refusal_with(program, paper)
            with self.subTest((blocks[0], local)):
                self.assertEqual(found == (IT, 0, 0, "there"), local in needed)

    def test_statements(self):
        for statement, needed in STATEMENTS:
            self.check((((statement,), ("go", 1)), ((), ("go", 1))), needed)

    def test_ways(self):
        for way, needed in WAYS:
            self.check(way_alone(way), needed)

    def test_a_par_and_a_join(self):
        program = with_all((((), ("par", 1, 2, 3)), ((), JOIN), ((), JOIN), ((), ("go", 3))))
        paper = best_paper(program)
        for at in range(4):
            paper = with_page(paper, IT, at, 0, ())
        self.assertIsNone(refusal_with(program, paper))

    def test_returns(self):
        for kind in (INT, PAIR, ("vec", INT)):
            function = (0, (kind,), (((), RETURN),), ())
            self.assertEqual(refusal((BOOK, (MAIN, function), 0)), (1, 0, 0, "there"))
        for kind in (("ref", INT), ("mut", PAIR)):
            function = (1, (kind, kind), (((), RETURN),), (1,))
            self.assertEqual(refusal((BOOK, (MAIN, function), 0)), (1, 0, 0, "there"))
        self.assertEqual(refusal(straight((INT,), put(0, ("use", ZERO)), ("drop", 0))), (0, 0, 2, "there"))
        self.assertIsNone(refusal(straight((INT,), put(0, ("use", ZERO)))))


class GoneTest(unittest.TestCase):

    def check(self, wanted, kinds, *statements, others=()):
        with self.subTest(statements):
            found = refusal(straight(kinds, *statements, others=others))
            if wanted is None:
                self.assertTrue(found is None or found[2] == len(statements), found)
            else:
                self.assertEqual(found, (0, 0, wanted, "there"))

    def test_what_was_taken_by_an_earlier_statement(self):
        pair, box = ("record", 0, (ZERO, TRUE)), ("box", ZERO, INT)
        kinds = (INT, PAIR, PAIR, ("box", INT), INT, BOOL, LIST)
        show = ("show", ("copy", field(1, 0)))
        for taking in (
            put(2, ("use", ("move", 1))), ("drop", 1), ("end", 1), ("open", 1, (4, 5)),
            put(6, ("variant", 0, 2, (TRUE, ("move", 1)))),
        ):
            self.check(2, kinds, put(1, pair), taking, show)
            self.check(None, kinds, put(1, pair), taking, put(1, pair), show)
            self.check(None, kinds, put(1, pair), taking, ("drop", 1))
            self.check(None, kinds, put(1, pair), taking, ("end", 1))
            self.check(2, kinds, put(1, pair), taking, ("set", field(1, 0), ("use", ZERO)))
        self.check(2, kinds, put(3, box), put(4, ("unbox", 3)), ("show", ("copy", (3, (DEREF,)))))
        self.check(2, kinds, put(6, ("variant", 0, 0, ())), ("unpack", 6, 0, ()), ("unpack", 6, 0, ()))
        self.check(None, kinds, put(3, box), put(4, ("unbox", 3)), ("show", copied(4)))

    def test_copies_take_nothing(self):
        kinds = (INT, INT, ("ref", INT), ("ref", INT), INT)
        self.check(None, kinds, put(1, ("use", ZERO)), put(4, ("use", copied(1))), ("show", copied(1)),
                   put(2, ("lend", "ref", whole(1))), put(3, ("use", copied(2))), ("show", ("copy", (2, (DEREF,)))))

    def test_references_that_are_taken(self):
        kinds = (INT, PAIR, ("mut", PAIR), ("mut", PAIR), ("ref", PAIR))
        pair = put(1, ("record", 0, (ZERO, TRUE)))
        lend = put(2, ("lend", "mut", whole(1)))
        use = ("set", (2, (DEREF, ("field", 0))), ("use", ZERO))
        self.check(None, kinds, pair, lend, use, use)
        self.check(3, kinds, pair, lend, put(3, ("use", ("move", 2))), use)
        self.check(3, kinds, pair, lend, ("drop", 2), use)
        self.check(3, kinds, pair, put(4, ("lend", "ref", whole(1))), ("end", 4), put(4, ("use", copied(4))))

    def test_what_is_taken_earlier_in_the_statement(self):
        two = (2, (INT, PAIR, INT), (((), ("go", 0)),), ())
        back = (2, (INT, INT, PAIR), (((), ("go", 0)),), ())
        kinds = (INT, PAIR, PAIR, LIST, ("vec", PAIR), ("box", INT), ("vec", INT), INT, ("record", 0))
        pair = put(1, ("record", 0, (ZERO, TRUE)))
        part = ("copy", field(1, 0))
        self.check(1, kinds, pair, ("call", 0, 1, (("move", 1), part)), others=(two, back))
        self.check(None, kinds, pair, ("call", 0, 2, (part, ("move", 1))), others=(two, back))
        # The index of the place stands behind the operand, the place itself, too.
        pairs = put(4, ("vec", PAIR))
        self.check(2, kinds, pair, pairs, ("set", (4, (("index", part),)), ("use", ("move", 1))))
        self.check(2, kinds, pair, pairs, ("push", whole(4), ("move", 8)))
        self.check(1, kinds, pair, ("set", whole(2), ("use", ("move", 2))))
        twice = (2, (INT, PAIR, PAIR), (((), ("go", 0)),), ())
        self.check(1, kinds, pair, ("call", 0, 1, (("move", 1), ("move", 1))), others=(twice,))
        boxes = put(5, ("box", ZERO, INT))
        self.check(1, kinds, boxes, ("set", (5, (DEREF,)), ("unbox", 5)))
        self.check(2, kinds, boxes, put(6, ("vec", INT)), ("set", item(6, ("copy", (5, (DEREF,)))), ("unbox", 5)))

    def test_a_reference_that_is_moved_twice(self):
        two = (2, (INT, ("mut", PAIR), ("mut", PAIR)), (((), ("go", 0)),), ())
        kinds = (INT, PAIR, ("mut", PAIR))
        self.check(2, kinds, put(1, ("record", 0, (ZERO, TRUE))), put(2, ("lend", "mut", whole(1))),
                   ("call", 0, 1, (("move", 2), ("move", 2))), others=(two,))

    def test_targets_that_are_not_there(self):
        kinds = (INT, PAIR, INT, BOOL, ("vec", INT), INT)
        nothing = (0, (INT,), (((put(0, ("use", ZERO)),), RETURN),), ())
        self.check(None, kinds, put(1, ("record", 0, (ZERO, TRUE))), ("open", 1, (2, 3)), put(4, ("vec", INT)),
                   ("take", 5, whole(4)), ("call", 0, 1, ()), others=(nothing,))

    def test_a_take_from_a_place_within_its_target(self):
        book = (((("vec", ("record", 0)),),), ())
        kinds = (INT, ("record", 0), ("vec", ("record", 0)))
        taking = ("take", 1, field(1, 0))
        self.assertEqual(refusal(straight(kinds, taking, book=book)), (0, 0, 0, "there"))
        self.assertEqual(refusal(straight(kinds, put(2, ("vec", ("record", 0))), put(1, ("record", 0, (("move", 2),))),
                                          taking, ("end", 1), put(0, ("use", ZERO)), book=book)), None)

    def test_what_is_there_on_one_way_alone(self):
        kinds = (INT, INT, BOOL)
        for statements, wanted in (
            (((), ()), (0, 3, 0, "there")), (((put(1, ("use", ZERO)),), ()), (0, 3, 0, "there")),
            (((), (put(1, ("use", ZERO)),)), (0, 3, 0, "there")),
            (((put(1, ("use", ZERO)),), (put(1, ("use", ZERO)),)), None),
        ):
            program = main_of(kinds, ((), ("branch", TRUE, 1, 2)), (statements[0], ("go", 3)),
                              (statements[1], ("go", 3)), ((put(0, ("use", copied(1))),), RETURN))
            self.assertEqual(refusal(program), wanted)

    def test_in_a_loop(self):
        kinds = (INT, ("box", INT), ("box", INT))
        for more, wanted in (((), (0, 1, 0, "there")), ((put(1, ("box", ZERO, INT)),), None)):
            program = main_of(
                kinds, ((put(1, ("box", ZERO, INT)),), ("go", 1)),
                ((put(2, ("use", ("move", 1))),) + more, ("branch", TRUE, 1, 2)),
                ((("end", 1), ("end", 2), put(0, ("use", ZERO))), RETURN),
            )
            self.assertEqual(refusal(program), wanted)

    def test_in_the_sides_of_a_par(self):
        kinds = (INT, ("box", INT), ("box", INT), INT)
        ending = ((("end", 1), ("end", 2), put(0, ("use", ZERO))), RETURN)
        use = put(3, ("use", ("copy", (1, (DEREF,)))))
        box = put(1, ("box", ZERO, INT))
        for ahead, first, second, wanted in (
            ((), (use,), (), (0, 1, 0, "there")), ((), (), (use,), (0, 2, 0, "there")),
            ((box,), (use,), (), None), ((box,), (), (use,), None),
            ((box,), (put(2, ("use", ("move", 1))),), (), None),
            ((box,), (put(2, ("use", ("move", 1))), use), (), (0, 1, 1, "there")),
        ):
            program = main_of(kinds, (ahead, ("par", 1, 2, 3)), (first, JOIN), (second, JOIN), ending)
            with self.subTest((ahead, first, second)):
                self.assertEqual(refusal(program), wanted)


class FixedTest(unittest.TestCase):

    def test_each_change_through_a_ref(self):
        kinds = (INT, INT, ("vec", INT), PAIR, ("ref", PAIR), ("ref", ("vec", INT)), ("ref", INT), ("mut", PAIR),
                 ("mut", INT), ("ref", ("box", INT)), ("box", INT), ("ref", ("vec", PAIR)), ("mut", ("box", INT)))
        lends = (
            put(1, ("use", ZERO)), put(2, ("vec", INT)), put(3, ("record", 0, (ZERO, TRUE))),
            put(10, ("box", ZERO, INT)),
            put(4, ("lend", "ref", whole(3))), put(5, ("lend", "ref", whole(2))), put(6, ("lend", "ref", whole(1))),
            put(9, ("lend", "ref", whole(10))),
        )
        for statement in (
            ("set", (6, (DEREF,)), ("use", ZERO)),
            ("set", (4, (DEREF, ("field", 0))), ("use", ZERO)),
            ("set", (4, (DEREF,)), ("use", ("move", 3))),
            ("set", (5, (DEREF, ("index", ZERO))), ("use", ZERO)),
            ("set", (9, (DEREF, DEREF)), ("use", ZERO)),
            ("push", (5, (DEREF,)), ZERO),
            ("take", 1, (5, (DEREF,))),
            put(7, ("lend", "mut", (4, (DEREF,)))),
            put(8, ("lend", "mut", (4, (DEREF, ("field", 0))))),
            put(8, ("lend", "mut", (9, (DEREF, DEREF)))),
            put(12, ("lend", "mut", (9, (DEREF,)))),
        ):
            with self.subTest(statement):
                self.assertEqual(refusal(straight(kinds, *lends, statement)), (0, 0, len(lends), "fixed"))

    def test_what_changes_nothing_through_a_ref(self):
        kinds = (INT, INT, ("ref", INT), ("ref", INT), ("mut", INT), ("ref", INT), BOOL)
        statements = (
            put(1, ("use", ZERO)), put(2, ("lend", "ref", whole(1))), put(3, ("lend", "ref", (2, (DEREF,)))),
            put(2, ("use", copied(3))), put(0, ("use", ("copy", (2, (DEREF,))))), ("drop", 2), ("end", 3),
            put(4, ("lend", "mut", whole(1))), put(5, ("lend", "ref", (4, (DEREF,)))),
            put(6, ("op", "<", ("copy", (5, (DEREF,))), ZERO)), ("set", (4, (DEREF,)), ("use", ZERO)),
            put(4, ("lend", "mut", (4, (DEREF,)))),
        )
        self.assertIsNone(refusal(straight(kinds, *statements)))

    def test_there_counts_ahead_of_it(self):
        kinds = (INT, INT, ("ref", INT))
        place = ("set", (2, (DEREF,)), ("use", copied(1)))
        lend = put(2, ("lend", "ref", whole(0)))
        zero = put(0, ("use", ZERO))
        self.assertEqual(refusal(straight(kinds, zero, lend, place)), (0, 0, 2, "there"))
        self.assertEqual(refusal(straight(kinds, place)), (0, 0, 0, "there"))
        self.assertEqual(refusal(straight(kinds, zero, put(1, ("use", ZERO)), lend, place)), (0, 0, 3, "fixed"))

    def test_in_a_block_that_cannot_be_come_to(self):
        kinds = (INT, ("ref", INT))
        wrong = ("set", (1, (DEREF,)), ("use", ZERO))
        zero = put(0, ("use", ZERO))
        self.assertIsNone(refusal(main_of(kinds, ((zero,), ("go", 2)), ((wrong,), ("go", 2)), ((), RETURN))))
        self.assertEqual(refusal(main_of(kinds, ((zero,), ("go", 1)), ((put(1, ("lend", "ref", whole(0))), wrong),
                                                                        ("go", 2)), ((), RETURN))), (0, 1, 1, "fixed"))


class PageTest(unittest.TestCase):

    def test_the_page_says_what_is_there(self):
        program = main_of((INT, INT), ((put(1, ("use", ZERO)),), ("go", 1)), ((put(0, ("use", copied(1))),), RETURN))
        best = best_paper(program)
        self.assertEqual(best[0][1], page((1,)))
        self.assertIsNone(refusal_with(program, best))
        self.assertEqual(refusal_with(program, with_page(best, 0, 1, 0, ())), (0, 1, 0, "there"))
        self.assertIsNone(refusal_with(program, with_page(best, 0, 1, 1, (0, 1))))


if __name__ == "__main__":
    unittest.main()
