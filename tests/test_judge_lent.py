"""Point 5.7, "lent": touches of what live references hold."""

import unittest

from helpers import BOOK, BOOL, INT, LIST, PAIR
from judge_helpers import refusal, refusal_with, with_page
from mir_helpers import DEREF, RETURN, TRUE, ZERO, copied, field, item, main_of, put, whole
from oneowner.mir import kind_of_place
from oneowner.papers import best_paper
from oneowner.touches import overlap, touches

# The params of the function under test; behind them it has a reference that is lent, and one that uses it.
KINDS = (
    INT, PAIR, ("vec", PAIR), LIST, ("box", INT), INT, BOOL, ("vec", INT), ("box", LIST), PAIR, ("mut", PAIR),
    ("vec", ("vec", INT)), ("box", PAIR), ("ref", PAIR),
)
P, VP, L, B, I, T, V, BL, P2, MP, VV, BP, RP = range(1, 14)
MAIN = (0, (INT,), (((put(0, ("use", ZERO)),), RETURN),), ())
NONE = (0, (INT,), (((), ("go", 0)),), ())
ONE = (1, (PAIR, PAIR), (((), ("go", 0)),), ())
GIVEN, MORE = len(KINDS), len(KINDS) + 1


def part(local, tag, number):
    return (local, (("part", tag, number),))


def tried(word, place, statement):
    """What the judge says of a statement while a place is lent by a reference that is used behind it."""
    kind = kind_of_place(BOOK, KINDS, place)
    using = put(MORE, ("lend", "ref", (GIVEN, (DEREF,))))
    blocks = (((put(GIVEN, ("lend", word, place)), statement, using), ("go", 1)), ((), ("go", 1)))
    function = (len(KINDS) - 1, KINDS + ((word, kind), ("ref", kind)), blocks, ())
    program = (BOOK, (MAIN, NONE, ONE, function), 0)
    return refusal_with(program, best_paper(program))


FIELD, OTHER_FIELD = field(P, 0), field(P, 1)
ITEM = (VP, (("index", ZERO),))
ITEM_FIELD = (VP, (("index", copied(I)), ("field", 0)))
PART, SAME, ANOTHER = part(L, 1, 0), part(L, 2, 0), part(L, 2, 1)
WITHIN = (L, (("part", 1, 1), DEREF))
NEW_PAIR = ("record", 0, (ZERO, TRUE))
PLACES = (
    whole(P), FIELD, OTHER_FIELD, whole(VP), ITEM, ITEM_FIELD, whole(L), PART, SAME, ANOTHER, WITHIN, whole(B),
    (B, (DEREF,)), whole(I), whole(P2), (VV, (("index", ZERO),)), (VV, (("index", ZERO), ("index", ZERO))),
    (BP, (DEREF, ("field", 0))), (BP, (DEREF,)), (BL, (DEREF, ("part", 2, 1), ("field", 0))),
)
STATEMENTS = (
    put(I, ("use", ("copy", FIELD))), ("show", ("copy", OTHER_FIELD)), put(I, ("use", ("copy", ITEM_FIELD))),
    put(I, ("len", whole(VP))), put(I, ("use", ("copy", PART))), put(T, ("use", ("copy", SAME))),
    put(T, ("not", ("copy", SAME))), put(I, ("op", "+", ZERO, ("copy", (B, (DEREF,))))),
    put(RP, ("lend", "ref", whole(P))), put(RP, ("lend", "ref", ITEM)), ("push", whole(V), ("copy", FIELD)),
    ("set", item(V, ("copy", FIELD)), ("use", ZERO)), put(T, ("use", ("copy", (L, (("part", 2, 1), ("field", 1)))))),
    put(P, ("record", 0, (ZERO, TRUE))), ("set", FIELD, ("use", ZERO)), ("set", OTHER_FIELD, ("use", TRUE)),
    ("set", ITEM_FIELD, ("use", ZERO)), ("set", ITEM, ("use", ("move", P2))), ("set", PART, ("use", ZERO)),
    ("set", SAME, ("use", TRUE)), ("set", ANOTHER, ("use", ("move", P2))), ("set", WITHIN, ("variant", 0, 0, ())),
    ("set", (B, (DEREF,)), ("use", ZERO)), ("push", whole(VP), ("move", P2)), ("take", P2, whole(VP)),
    ("take", P, whole(VP)), put(MP, ("lend", "mut", whole(P))), put(MP, ("lend", "mut", ITEM)),
    ("call", P, 2, (("move", P2),)), ("open", P2, (I, T)), ("unpack", L, 0, ()), ("unpack", L, 2, (T, P)),
    put(I, ("unbox", B)), put(P2, ("use", ("move", P))), put(B, ("box", copied(I), INT)),
    put(L, ("variant", 0, 2, (TRUE, ("move", P)))), put(BP, ("box", ("move", P), PAIR)), put(P, ("unbox", BP)),
    ("drop", P), ("end", P), ("drop", VP), ("end", L), ("end", B), ("drop", BP), ("drop", BL), ("end", VV),
    ("take", V, whole(VV)), ("push", item(VV, ZERO), ZERO), put(I, ("len", item(VV, ZERO))),
    ("set", item(VV, ZERO), ("use", ("move", V))), ("call", I, 1, ()), put(V, ("vec", INT)),
    put(I, ("use", ("copy", (BP, (DEREF, ("field", 0)))))), ("set", (BP, (DEREF, ("field", 1))), ("use", TRUE)),
)


class TableTest(unittest.TestCase):

    def test_every_loan_against_every_statement(self):
        for statement in STATEMENTS:
            touched = touches(statement, KINDS)
            for place in PLACES:
                hit = [way for way, other in touched if overlap(place, other)]
                for word in ("ref", "mut"):
                    wanted = "mut" == word and len(hit) > 0 or any(way != "read" for way in hit)
                    with self.subTest((word, place, statement)):
                        found = tried(word, place, statement)
                        self.assertEqual(found == (3, 0, 1, "lent"), wanted, found)
                        if not wanted and found is not None:
                            # Then nothing is wrong but that what is lent may not be there any more.
                            self.assertGreater(found[2], 1)


class Lent(unittest.TestCase):

    def check(self, wanted, kinds, *statements, params=0, others=(), way=("go", 1)):
        """The index of the statement of the first function that is refused because of a loan, None for no one."""
        program = (BOOK, ((params, kinds, ((statements, way), ((), ("go", 1))), ()), MAIN) + others, 1)
        with self.subTest(statements):
            self.assertEqual(refusal(program), None if wanted is None else (0, 0, wanted, "lent"))


def use(local):
    """A statement that uses a reference to an int."""
    return ("show", ("copy", (local, (DEREF,))))


SET_0, SET_1 = put(0, ("use", ZERO)), put(1, ("use", ZERO))
REF, MUT = ("ref", INT), ("mut", INT)


class LiveTest(Lent):
    """A loan counts as long as a reference that holds it is live."""

    kinds = (INT, INT, REF, REF, MUT, MUT)
    read = put(0, ("use", copied(1)))

    def test_ahead_of_the_last_use(self):
        lend = put(2, ("lend", "ref", whole(1)))
        self.check(None, self.kinds, SET_1, lend, use(2), SET_1)
        self.check(2, self.kinds, SET_1, lend, SET_1, use(2))
        self.check(3, self.kinds, SET_1, lend, use(2), SET_1, use(2))
        self.check(None, self.kinds, SET_1, lend, SET_1)
        self.check(None, self.kinds, SET_1, lend, self.read, use(2), self.read)

    def test_a_loan_for_changing(self):
        lend = put(4, ("lend", "mut", whole(1)))
        change = ("set", (4, (DEREF,)), ("use", ZERO))
        self.check(None, self.kinds, SET_1, lend, change, self.read, SET_1)
        self.check(2, self.kinds, SET_1, lend, self.read, change)
        self.check(2, self.kinds, SET_1, lend, SET_1, change)
        self.check(2, self.kinds, SET_1, lend, put(2, ("lend", "ref", whole(1))), change)
        self.check(2, self.kinds, SET_1, lend, put(5, ("lend", "mut", whole(1))), change)

    def test_many_loans_for_reading(self):
        lends = [put(2, ("lend", "ref", whole(1))), put(3, ("lend", "ref", whole(1)))]
        self.check(None, self.kinds, SET_1, *lends, use(2), use(3), SET_1)
        self.check(4, self.kinds, SET_1, *lends, use(2), SET_1, use(3))
        self.check(3, self.kinds, SET_1, *lends, put(4, ("lend", "mut", whole(1))), use(2))

    def test_a_reference_that_becomes_another(self):
        lend, other = put(2, ("lend", "ref", whole(1))), put(2, ("lend", "ref", whole(0)))
        self.check(None, self.kinds, SET_1, put(0, ("use", ZERO)), lend, SET_1, other, use(2))
        self.check(4, self.kinds, SET_1, put(0, ("use", ZERO)), lend, other, put(0, ("use", ZERO)), use(2))

    def test_live_ahead_of_the_statement_that_uses_it(self):
        lend = put(2, ("lend", "ref", whole(1)))
        # What is set is touched, though the reference is not used behind it.
        self.check(2, self.kinds, SET_1, lend, put(1, ("use", ("copy", (2, (DEREF,))))))
        lend = put(4, ("lend", "mut", whole(1)))
        self.check(2, self.kinds, SET_1, lend, ("set", (4, (DEREF,)), ("use", copied(1))))

    def test_what_is_lent_hands_on(self):
        lend = put(2, ("lend", "ref", whole(1)))
        self.check(3, self.kinds, SET_1, lend, put(3, ("use", copied(2))), SET_1, use(3))
        self.check(None, self.kinds, SET_1, lend, put(3, ("use", copied(2))), use(3), SET_1)
        self.check(3, self.kinds, SET_1, lend, put(3, ("lend", "ref", (2, (DEREF,)))), SET_1, use(3))
        lend = put(4, ("lend", "mut", whole(1)))
        self.check(3, self.kinds, SET_1, lend, put(5, ("use", ("move", 4))), self.read,
                   put(3, ("lend", "ref", (5, (DEREF,)))),
                   use(3))
        self.check(3, self.kinds, SET_1, lend, put(5, ("lend", "mut", (4, (DEREF,)))), self.read, use(5))

    def test_in_a_call(self):
        lender = (2, (REF, REF, REF), (((), ("go", 0)),), (1,))
        lends = [SET_1, put(0, ("use", ZERO)), put(2, ("lend", "ref", whole(1))), put(3, ("lend", "ref", whole(0)))]
        kinds = self.kinds + (REF,)
        self.check(5, kinds, *lends, ("call", 6, 2, (copied(2), copied(3))), SET_1, use(6), others=(lender,))
        self.check(None, kinds, *lends, ("call", 6, 2, (copied(3), copied(2))), SET_1, use(6), others=(lender,))
        self.check(None, kinds, *lends, ("call", 6, 2, (copied(2), copied(3))), put(0, ("use", ZERO)), use(6),
                   others=(lender,))


class ThroughTest(Lent):
    """Loans of places through references, and touches of references themselves."""

    kinds = (INT, ("mut", PAIR), MUT, MUT, ("ref", PAIR), ("mut", PAIR), ("ref", INT))
    first = put(2, ("lend", "mut", (1, (DEREF, ("field", 0)))))
    change_2 = ("set", (2, (DEREF,)), ("use", ZERO))

    def test_touches_through_the_reference_that_was_lent_on(self):
        for statement, wanted in (
            (("set", (1, (DEREF, ("field", 0))), ("use", ZERO)), 1),
            (("set", (1, (DEREF, ("field", 1))), ("use", TRUE)), None),
            (put(0, ("use", ("copy", (1, (DEREF, ("field", 0)))))), 1),
            (put(4, ("lend", "ref", (1, (DEREF,)))), 1),
            (put(5, ("lend", "mut", (1, (DEREF,)))), 1),
            (put(3, ("lend", "mut", (1, (DEREF, ("field", 0))))), 1),
            (put(5, ("use", ("move", 1))), 1),
        ):
            self.check(wanted, self.kinds, self.first, statement, self.change_2, params=1)
            self.check(None, self.kinds, self.first, self.change_2, statement, params=1)

    def test_a_loan_for_reading(self):
        first = put(6, ("lend", "ref", (1, (DEREF, ("field", 0)))))
        for statement, wanted in (
            (("set", (1, (DEREF, ("field", 0))), ("use", ZERO)), 1),
            (("set", (1, (DEREF, ("field", 1))), ("use", TRUE)), None),
            (put(0, ("use", ("copy", (1, (DEREF, ("field", 0)))))), None),
            (put(4, ("lend", "ref", (1, (DEREF,)))), None),
            (put(2, ("lend", "mut", (1, (DEREF, ("field", 0))))), 1),
        ):
            self.check(wanted, self.kinds, first, statement, use(6), params=1)

    def test_taking_and_changing_the_reference_itself(self):
        owner = (INT, ("mut", PAIR), MUT, PAIR)
        pair = put(3, ("record", 0, (ZERO, TRUE)))
        self.check(None, owner, self.first, pair, put(1, ("lend", "mut", whole(3))), self.change_2, params=1)
        self.check(None, owner, self.first, ("drop", 1), self.change_2, params=1)
        self.check(None, owner, self.first, ("end", 1), self.change_2, params=1)

    def test_a_reference_lent_from_itself(self):
        # It holds a loan of a place through itself then, which its next use touches.
        again = put(1, ("lend", "mut", (1, (DEREF,))))
        kinds = (INT, ("mut", PAIR))
        self.check(None, kinds, again, params=1)
        self.check(1, kinds, again, again, params=1)
        self.check(1, kinds, again, ("set", (1, (DEREF, ("field", 0))), ("use", ZERO)), params=1)
        same = put(1, ("lend", "ref", (1, (DEREF,))))
        self.check(None, (INT, REF), same, same, use(1), params=1)

    def test_a_copy_of_a_reference_touches_what_it_lends(self):
        kinds = (INT, INT, REF, REF, MUT)
        self.check(None, kinds, SET_1, put(2, ("lend", "ref", whole(1))), put(3, ("use", copied(2))), use(2), use(3))
        # The loan of a param has no place.
        self.check(None, (INT, REF, REF, MUT, MUT), put(2, ("use", copied(1))), ("set", (3, (DEREF,)), ("use", ZERO)),
                   put(4, ("use", ("move", 3))), use(1), use(2), params=3)

    def test_a_use_for_changing_is_a_change(self):
        taker = (1, (INT, ("mut", PAIR)), (((), ("go", 0)),), ())
        kinds = (INT, ("mut", PAIR), REF)
        first = put(2, ("lend", "ref", (1, (DEREF, ("field", 0)))))
        self.check(1, kinds, first, ("call", 0, 2, (("move", 1),)), use(2), params=1, others=(taker,))
        reader = (1, (INT, ("ref", PAIR)), (((), ("go", 0)),), ())
        kinds = (INT, ("ref", PAIR), REF)
        self.check(None, kinds, first, ("call", 0, 2, (copied(1),)), use(2), params=1, others=(reader,))


class WayTest(unittest.TestCase):

    def test_ways(self):
        kinds = (INT, BOOL, LIST, ("mut", BOOL), ("mut", LIST), ("ref", BOOL), ("ref", LIST), BOOL)
        read_bool = ((put(7, ("use", ("copy", (3, (DEREF,))))),), ("go", 4))
        read_list = ((put(6, ("lend", "ref", (4, (DEREF,)))),), ("go", 4))
        lend_bool = (put(1, ("use", TRUE)), put(3, ("lend", "mut", whole(1))))
        lend_list = (put(2, ("variant", 0, 0, ())), put(4, ("lend", "mut", whole(2))))
        for statements, way, behind, wanted in (
            (lend_bool, ("branch", copied(1), 1, 2), read_bool, (0, 0, 2, "lent")),
            (lend_bool, ("branch", TRUE, 1, 2), read_bool, None),
            (lend_list, ("switch", whole(2), (1, 2, 3)), read_list, (0, 0, 2, "lent")),
            (lend_bool + lend_list, ("switch", whole(2), (1, 2, 3)), read_bool, None),
            (lend_bool + lend_list, ("branch", copied(1), 1, 2), read_list, None),
        ):
            program = main_of(kinds, (statements, way), behind, behind, behind, ((), ("go", 4)))
            with self.subTest((statements, way)):
                self.assertEqual(refusal(program), wanted)

    def test_a_loan_for_reading_does_not_hinder_ways(self):
        kinds = (INT, BOOL, ("ref", BOOL))
        program = main_of(kinds, ((put(1, ("use", TRUE)), put(2, ("lend", "ref", whole(1)))),
                                  ("branch", copied(1), 1, 2)),
                          ((("show", ("copy", (2, (DEREF,)))),), ("go", 2)), ((put(0, ("use", ZERO)),), RETURN))
        self.assertIsNone(refusal(program))

    def test_over_a_loop(self):
        kinds = (INT, INT, REF)
        for inside, wanted in (((SET_1,), (0, 1, 0, "lent")), ((use(2),), None), ((use(2), SET_1), (0, 1, 1, "lent"))):
            program = main_of(kinds, ((SET_1, put(2, ("lend", "ref", whole(1)))), ("go", 1)),
                              (inside, ("branch", TRUE, 1, 2)), ((SET_0, use(2)), RETURN))
            with self.subTest(inside):
                self.assertEqual(refusal(program), wanted)

    def test_a_loan_of_the_last_round(self):
        kinds = (INT, INT, REF)
        for inside, wanted in (
            ((SET_1, put(2, ("lend", "ref", whole(1))), use(2)), None),
            ((SET_1, use(2), put(2, ("lend", "ref", whole(1)))), (0, 1, 0, "lent")),
        ):
            program = main_of(kinds, ((SET_1, put(2, ("lend", "ref", whole(1)))), ("go", 1)),
                              (inside, ("branch", TRUE, 1, 2)), ((put(0, ("use", ZERO)),), RETURN))
            with self.subTest(inside):
                self.assertEqual(refusal(program), wanted)

    def test_on_one_of_two_ways(self):
        kinds = (INT, INT, INT, REF)
        program = main_of(
            kinds, ((SET_1, put(2, ("use", ZERO))), ("branch", TRUE, 1, 2)),
            ((put(3, ("lend", "ref", whole(1))),), ("go", 3)), ((put(3, ("lend", "ref", whole(2))),), ("go", 3)),
            ((put(2, ("use", ZERO)), use(3), SET_0), RETURN),
        )
        self.assertEqual(refusal(program), (0, 3, 0, "lent"))

    def test_the_paper_tells_what_is_live_and_held(self):
        kinds = (INT, INT, REF)
        program = main_of(
            kinds, ((SET_1, put(2, ("lend", "ref", whole(1)))), ("go", 1)), ((SET_1, put(0, ("use", ZERO))), ("go", 2)),
            ((), RETURN),
        )
        best = best_paper(program)
        self.assertIsNone(refusal(program))
        self.assertIsNone(refusal_with(program, best))
        # Live behind the block, so live in it.
        paper = with_page(with_page(best, 0, 2, 3, (2,)), 0, 1, 3, (2,))
        self.assertEqual(refusal_with(program, paper), (0, 1, 0, "lent"))
        program = main_of(
            kinds, ((SET_1, put(0, ("use", ZERO)), put(2, ("lend", "ref", whole(0)))), ("go", 1)),
            ((SET_1, use(2), SET_0), RETURN),
        )
        best = best_paper(program)
        self.assertIsNone(refusal(program))
        self.assertEqual(best[0][1][2], ((2, ((0, 2),)),))
        # A pair that is no loan counts for nothing.
        self.assertIsNone(refusal_with(program, with_page(best, 0, 1, 2, ((2, ((0, 1), (0, 2))),))))
        more = main_of(
            kinds + (REF,),
            ((SET_1, put(0, ("use", ZERO)), put(2, ("lend", "ref", whole(0))), put(3, ("lend", "ref", whole(1)))),
             ("go", 1)),
            ((SET_1, use(2), SET_0), RETURN),
        )
        best = best_paper(more)
        self.assertIsNone(refusal_with(more, best))
        self.assertEqual(refusal_with(more, with_page(best, 0, 1, 2, ((2, ((0, 2), (0, 3))), (3, ((0, 3),))))),
                         (0, 1, 0, "lent"))


if __name__ == "__main__":
    unittest.main()
