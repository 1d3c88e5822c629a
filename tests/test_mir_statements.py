"""Points 4.4, 4.5 and 4.7: which statements, rvalues and ways have the right form."""

import unittest

from helpers import BOOL, HELD, INT, LIST, PAIR, WAY, deep_kind, longer, replaced
from mir_helpers import (
    B, BL, DEREF, H, I, JOIN, KINDS, L, ML, MV, P, P2, R, RETURN, RH, RI, RP, T, T2, TRUE, UNDER_TEST, V, VB, VP, W,
    ZERO, copied, field, item, program_of, program_of_blocks, put, ways, whole,
)
from oneowner.mir import is_mir

MOVE_P, MOVE_B, MOVE_L = ("move", P), ("move", B), ("move", L)
NEVER = (None, -1, 2 ** 32, "x")


class FormTest(unittest.TestCase):

    def right(self, *statements):
        for statement in statements:
            with self.subTest(statement):
                self.assertIs(is_mir(program_of(statement)), True)

    def wrong(self, *statements):
        for statement in statements:
            with self.subTest(statement):
                self.assertIs(is_mir(program_of(statement)), False)

    def never(self, *statements):
        """Statements that are right, and wrong with something else at any place."""
        self.right(*statements)
        for statement in statements:
            self.wrong(*replaced(statement, NEVER), *longer(statement, NEVER + ((),)))
            self.wrong(*[statement[:many] for many in range(len(statement))])


class RvalueTest(FormTest):

    def values(self, rvalue, kind, wrong=()):
        """An rvalue has a kind, and none if something is wrong about it."""
        for local in range(len(KINDS)):
            if KINDS[local] == kind:
                self.right(put(local, rvalue))
            else:
                self.wrong(put(local, rvalue))
            self.wrong(*[put(local, other) for other in wrong])

    def test_use(self):
        self.values(("use", ZERO), INT, [("use", ("num", -1)), ("use", ("num", True)), ("use",), ("use", ZERO, ZERO),
                                         ZERO])
        self.values(("use", TRUE), BOOL, [("use", ("truth", 1))])
        for local in range(len(KINDS)):
            right, other = ("copy", whole(local)), ("move", local)
            if KINDS[local] not in (INT, BOOL) and KINDS[local][0] != "ref":
                right, other = other, right
            self.values(("use", right), KINDS[local], [("use", other)])
        self.values(("use", ("copy", field(P, 1))), BOOL, [("use", ("copy", field(P, 2))),
                                                           ("use", ("copy", field(H, 0)))])
        self.never(put(P2, ("use", MOVE_P)), put(I, ("use", ("copy", item(V, copied(I))))))

    def test_operators(self):
        for sign, kind in (("+", INT), ("-", INT), ("*", INT), ("<", BOOL), ("==", BOOL)):
            self.values(("op", sign, copied(I), ZERO), kind, [
                ("op", sign, TRUE, ZERO), ("op", sign, ZERO, copied(T)), ("op", sign, MOVE_P, ZERO),
                ("op", sign, ZERO, copied(RI)), ("op", sign, copied(I)), ("op", sign, ZERO, ZERO, ZERO),
            ])
        for sign in ("", "/", "!", "!=", ">", "<=", "=", "<==", "plus", None, True, 0, ("+",), ("<",)):
            self.wrong(put(I, ("op", sign, ZERO, ZERO)), put(T, ("op", sign, ZERO, ZERO)))
        self.never(put(I, ("op", "+", copied(I), ("copy", field(P, 0)))),
                   put(T, ("op", "<", ("copy", (RI, (DEREF,))), ZERO)))

    def test_not(self):
        self.values(("not", copied(T)), BOOL, [("not", ZERO), ("not", MOVE_P), ("not",), ("not", TRUE, TRUE),
                                               ("not", T)])
        self.never(put(T, ("not", copied(T2))))

    def test_records(self):
        self.values(("record", 0, (ZERO, TRUE)), PAIR, [
            ("record", 0, (TRUE, ZERO)), ("record", 0, (ZERO, ZERO)), ("record", 0, (ZERO,)), ("record", 0, ()),
            ("record", 0, (ZERO, TRUE, ZERO)), ("record", 1, (ZERO, TRUE)), ("record", 2, (ZERO, TRUE)),
            ("record", -1, (ZERO, TRUE)), ("record", False, (ZERO, TRUE)), ("record", None, (ZERO, TRUE)),
            ("record", 0, ZERO), ("record", 0, None), ("record", 0), ("record", 0, ZERO, TRUE),
            ("variant", 0, (ZERO, TRUE)),
        ])
        self.values(("record", 1, (MOVE_B, ("move", VP), MOVE_L)), HELD, [
            ("record", True, (MOVE_B, ("move", VP), MOVE_L)), ("record", 1, (MOVE_B, ("move", V), MOVE_L)),
            ("record", 1, (MOVE_B, MOVE_L, ("move", VP))), ("record", 1, (copied(B), ("move", VP), MOVE_L)),
        ])
        self.never(put(P, ("record", 0, (copied(I), copied(T)))))

    def test_variants(self):
        self.values(("variant", 0, 0, ()), LIST, [
            ("variant", 0, 0, (ZERO,)), ("variant", 0, 1, ()), ("variant", 0, 3, ()), ("variant", 0, -1, ()),
            ("variant", 0, False, ()), ("variant", False, 0, ()), ("variant", 2, 0, ()), ("variant", -1, 0, ()),
            ("variant", None, 0, ()), ("variant", 0, None, ()), ("variant", 0, 0), ("variant", 0, 0, None),
            ("variant", 0, 0, (), ()), ("record", 0, 0, ()),
        ])
        self.values(("variant", 0, 1, (copied(I), ("move", BL))), LIST, [
            ("variant", 0, 1, (copied(I), MOVE_B)), ("variant", 0, 1, (TRUE, ("move", BL))), ("variant", 0, 1, (ZERO,)),
            ("variant", 0, 2, (copied(I), ("move", BL))), ("variant", 0, True, (copied(I), ("move", BL))),
            ("variant", 1, 1, (copied(I), ("move", BL))), ("variant", 0, 1, (copied(I), ("move", BL), ZERO)),
        ])
        self.values(("variant", 1, 1, ()), WAY, [("variant", 1, 2, ()), ("variant", True, 1, ()),
                                                 ("variant", 1, True, ())])
        self.never(put(L, ("variant", 0, 2, (copied(T), MOVE_P))))

    def test_boxes(self):
        self.values(("box", ZERO, INT), ("box", INT), [
            ("box", TRUE, INT), ("box", ZERO, BOOL), ("box", ZERO, ("box", INT)), ("box", MOVE_P, INT), ("box", ZERO),
            ("box", ZERO, INT, INT), ("box", ZERO, None), ("box", ZERO, "int"), ("box", ZERO, ()),
            ("box", ZERO, ("ref", INT)),
        ])
        self.values(("box", MOVE_L, LIST), ("box", LIST), [
            ("box", MOVE_L, ("variant", False)), ("box", MOVE_L, WAY), ("box", MOVE_L, ("variant", 2)),
            ("box", MOVE_L, ("record", 0)),
        ])
        self.wrong(*[put(local, ("box", copied(RI), ("ref", INT))) for local in range(len(KINDS))])
        self.never(put(BL, ("box", MOVE_L, LIST)))

    def test_unbox(self):
        self.values(("unbox", B), INT, [("unbox", I), ("unbox", RI), ("unbox", V), ("unbox", -1), ("unbox", len(KINDS)),
                                        ("unbox", None), ("unbox", True), ("unbox", MOVE_B), ("unbox", B, B),
                                        ("unbox",),
                                        ("unbox", whole(B))])
        self.values(("unbox", BL), LIST)
        self.never(put(L, ("unbox", BL)))

    def test_vecs(self):
        self.values(("vec", INT), ("vec", INT), [("vec",), ("vec", INT, INT), ("vec", None), ("vec", "int"),
                                                 ("vec", ()),
                                                 ("vec", ("ref", INT)), ("vec", ("record", 2)), ("vec", ("vec", ()))])
        self.values(("vec", ("box", PAIR)), ("vec", ("box", PAIR)), [("vec", ("box", ("record", False)))])
        self.never(put(V, ("vec", INT)), put(VP, ("vec", PAIR)))

    def test_lending(self):
        self.values(("lend", "ref", whole(I)), ("ref", INT), [("lend", "box", whole(I)), ("lend", "", whole(I)),
                    ("lend", None, whole(I)), ("lend", whole(I)), ("lend", "ref"), ("lend", "ref", I),
                    ("lend", "ref", copied(I)),
                    ("lend", "ref", whole(-1)), ("lend", ("ref",), whole(I)), ("lend", "ref", whole(I), whole(I))])
        self.values(("lend", "ref", (RH, (DEREF,))), ("ref", HELD))
        self.values(("lend", "ref", (MV, (DEREF, ("index", ZERO)))), ("ref", INT))
        self.values(("lend", "mut", whole(L)), ("mut", LIST))
        self.values(("lend", "mut", (ML, (DEREF, ("part", 1, 1), DEREF))), ("mut", LIST))
        self.values(("lend", "mut", (MV, (DEREF,))), ("mut", ("vec", INT)))
        # The form lets lend for changing through a ref; the judge does not.
        self.values(("lend", "mut", (RH, (DEREF, ("field", 2)))), ("mut", LIST))
        for word in ("ref", "mut"):
            self.wrong(*[put(local, ("lend", word, whole(reference))) for local in range(len(KINDS))
                         for reference in (RI, RH, MV, ML)])
        self.never(put(RP, ("lend", "ref", (VB, (("index", copied(I)), DEREF)))))

    def test_len(self):
        self.values(("len", whole(V)), INT, [("len", whole(I)), ("len", whole(B)), ("len", whole(MV)), ("len", V),
                                             ("len",),
                                             ("len", whole(-1)), ("len", whole(V), whole(V)), ("len", ("move", V))])
        self.values(("len", (MV, (DEREF,))), INT)
        self.values(("len", field(H, 1)), INT, [("len", field(H, 0))])
        self.never(put(I, ("len", field(H, 1))))

    def test_other_things(self):
        for rvalue in (None, True, 0, "use", (), ((),), ("x",), ("x", ZERO), ("copy", whole(I)), whole(I),
                       ("call", 0, ()),
                       ("ref", whole(I)), ("mut", whole(I)), ("deref", whole(B)), (None, ZERO), ("truth", True)):
            self.wrong(*[put(local, rvalue) for local in (I, T, P, B, RI)])


class StatementTest(FormTest):

    def test_set(self):
        self.right(("set", field(P, 1), ("use", TRUE)), ("set", field(H, 2), ("use", MOVE_L)),
                   ("set", item(V, copied(I)), ("use", ZERO)), ("set", (MV, (DEREF, ("index", ZERO))),
                                                                ("len", whole(V))),
                   ("set", (L, (("part", 1, 0),)), ("use", ZERO)), ("set", (RP, (DEREF, ("field", 0))), ("use", ZERO)),
                   put(RI, ("use", copied(RI))), put(R, ("use", ZERO)))
        self.wrong(("set", field(P, 0), ("use", TRUE)), ("set", field(P, 2), ("use", TRUE)), ("set", I, ("use", ZERO)),
                   ("set", field(P, 0), ("lend", "ref", whole(I))), ("set", (RP, (DEREF,)), ("lend", "ref", whole(P))),
                   ("set", whole(-1), ("use", ZERO)), ("set", item(V, TRUE), ("use", ZERO)), ("set", whole(I), ZERO),
                   ("set", whole(len(KINDS)), ("use", ZERO)), ("set", None, None), ("set", (), ()),
                   ("set", whole(I), None))
        self.never(("set", field(P, 0), ("use", copied(I))), ("set", field(H, 2), ("use", MOVE_L)))

    def test_opening(self):
        self.never(("open", P, (I, T)), ("open", H, (B, VP, L)))
        self.right(("open", P, (R, T2)))
        self.wrong(("open", P, (T, I)), ("open", P, (I,)), ("open", P, ()), ("open", P, (I, T, I)), ("open", P, (I, I)),
                   ("open", P, I, T), ("open", P, None), ("open", H, (B, V, L)), ("open", L, ()), ("open", B, (I,)),
                   ("open", RP, (I, T)), ("open", V, (I,)), ("open", True, (I, T)), ("open", P, (True, T)),
                   ("open", P, (whole(I), whole(T))), ("open", whole(P), (I, T)), ("open", W, ()), ("open", I, ()))

    def test_the_targets_are_different_ones(self):
        book = (((INT, INT), ()), (((INT, INT), ()),))
        kinds = (INT, INT, INT, ("record", 0), ("record", 1), ("variant", 0))
        for statement, right in (
            (("open", 3, (1, 2)), True), (("open", 3, (2, 1)), True), (("open", 3, (1, 1)), False),
            (("open", 3, (0, 0)), False), (("open", 4, ()), True), (("open", 4, (1,)), False),
            (("unpack", 5, 0, (1, 2)), True), (("unpack", 5, 0, (0, 2)), True), (("unpack", 5, 0, (2, 2)), False),
            (("unpack", 5, 1, ()), True), (("unpack", 5, 1, (1,)), False),
        ):
            with self.subTest(statement):
                self.assertIs(is_mir((book, ((0, kinds, (((statement,), RETURN),), ()),), 0)), right)

    def test_unpack(self):
        self.never(("unpack", L, 1, (I, BL)), ("unpack", L, 2, (T, P)))
        self.right(("unpack", L, 0, ()), ("unpack", W, 0, ()), ("unpack", W, 1, ()))
        self.wrong(("unpack", L, 0, (I,)), ("unpack", L, 1, (I, B)), ("unpack", L, 1, (BL, I)), ("unpack", L, 1, (I,)),
                   ("unpack", L, 1, ()), ("unpack", L, 3, ()), ("unpack", L, -1, ()), ("unpack", L, False, ()),
                   ("unpack", L, True, (I, BL)), ("unpack", L, 1, (I, BL, I)), ("unpack", P, 0, (I, T)),
                   ("unpack", ML, 0, ()),
                   ("unpack", BL, 0, ()), ("unpack", L, 0, None), ("unpack", L, None, ()), ("unpack", L, "0", ()),
                   ("unpack", L, 1, I, BL), ("unpack", L, (I, BL)), ("unpack", whole(L), 0, ()))

    def test_push(self):
        self.never(("push", whole(V), copied(I)), ("push", field(H, 1), MOVE_P))
        self.right(("push", (MV, (DEREF,)), ZERO), ("push", whole(VP), MOVE_P),
                   ("push", whole(V), ("copy", item(V, ZERO))))
        self.wrong(("push", whole(V), TRUE), ("push", whole(V), MOVE_P), ("push", whole(I), ZERO),
                   ("push", whole(MV), ZERO),
                   ("push", item(V, ZERO), ZERO), ("push", whole(B), ZERO), ("push", V, ZERO), ("push", whole(V), I),
                   ("push", whole(VP), copied(RP)), ("push", ZERO, whole(V)), ("push", whole(V)),
                   ("push", whole(V), None))

    def test_take(self):
        self.never(("take", I, whole(V)), ("take", P, field(H, 1)))
        self.right(("take", R, (MV, (DEREF,))), ("take", P2, whole(VP)))
        self.wrong(("take", T, whole(V)), ("take", P, whole(V)), ("take", I, whole(I)), ("take", I, whole(MV)),
                   ("take", I, item(V, ZERO)), ("take", I, whole(B)), ("take", whole(I), whole(V)), ("take", I, V),
                   ("take", True, whole(V)), ("take", whole(V), I), ("take", I), ("take", RI, whole(V)))

    def test_drop_and_end(self):
        for word in ("drop", "end"):
            self.never((word, P))
            self.right(*[(word, local) for local in range(len(KINDS))])
            self.wrong((word, len(KINDS)), (word, -1), (word, True), (word, False), (word, whole(P)), (word, (P,)),
                       (word,),
                       (word, "1"), (word, P, P))

    def test_call(self):
        operands = (copied(I), MOVE_P, copied(RP), ("move", MV))
        self.never(("call", P2, 1, operands))
        self.right(("call", R, 0, ()), ("call", I, 0, ()), ("call", L, 2, ()), ("call", RI, 3, (copied(RH), ZERO)),
                   ("call", R, UNDER_TEST, ()), ("call", P, 1, operands))
        self.wrong(("call", T, 0, ()), ("call", RI, 0, ()), ("call", I, 0, (ZERO,)), ("call", I, 1, operands),
                   ("call", P, 1, operands[:3]), ("call", P, 1, operands + (ZERO,)), ("call", P, 1, ()),
                   ("call", P, 1, (TRUE,) + operands[1:]), ("call", P, 1, (ZERO, MOVE_B, copied(RP), ("move", MV))),
                   ("call", P, 1, (ZERO, MOVE_P, copied(RI), ("move", MV))),
                   ("call", P, 1, (ZERO, MOVE_P, copied(RP), ("move", V))), ("call", P, 0, operands),
                   ("call", I, UNDER_TEST + 1, ()), ("call", I, -1, ()), ("call", I, False, ()), ("call", I, None, ()),
                   ("call", I, "0", ()), ("call", whole(I), 0, ()), ("call", I, 0), ("call", I, 0, None),
                   ("call", I, 0, ZERO),
                   ("call", len(KINDS), 0, ()), ("call", False, 0, ()), ("call", RI, 3, (ZERO, copied(RH))))

    def test_show(self):
        self.never(("show", copied(I)), ("show", ("copy", field(P, 1))))
        self.right(("show", ZERO), ("show", TRUE), ("show", copied(T)))
        self.wrong(("show", MOVE_P), ("show", copied(RI)), ("show", MOVE_B), ("show", I), ("show", whole(I)), ("show",),
                   ("show", ZERO, ZERO), ("show", None), ("show", ("use", ZERO)), ("show", 0), ("show", True))

    def test_other_things(self):
        self.wrong(None, True, 0, "show", (), ((),), ("x",), ("x", 0), ("let", 0, ZERO), ("go", 0), RETURN, JOIN,
                   ("do", 0), (None,), (0,), ("use", ZERO), ("branch", TRUE, 0, 0), ("par", 0, 0, 0))


class WayTest(unittest.TestCase):

    def right(self, *found):
        for way in found:
            with self.subTest(way):
                self.assertIs(is_mir(ways(way, RETURN, RETURN, RETURN)), True)

    def wrong(self, *found):
        for way in found:
            with self.subTest(way):
                self.assertIs(is_mir(ways(way, RETURN, RETURN, RETURN)), False)
                # Blocks that cannot be come to have the form, too.
                self.assertIs(is_mir(ways(RETURN, RETURN, way, RETURN)), False)

    def never(self, *found):
        self.right(*found)
        for way in found:
            self.wrong(*replaced(way, NEVER), *longer(way, NEVER + ((),)))

    def test_go(self):
        self.never(("go", 1))
        self.right(("go", 0), ("go", 3))
        self.wrong(("go",), ("go", 4), ("go", -1), ("go", True), ("go", (1,)), ("go", 1, 2))

    def test_branch(self):
        self.never(("branch", copied(T), 1, 2))
        self.right(("branch", TRUE, 0, 0), ("branch", ("copy", field(P, 1)), 3, 3))
        self.wrong(("branch", ZERO, 1, 2), ("branch", copied(I), 1, 2), ("branch", MOVE_P, 1, 2),
                   ("branch", TRUE, 1, 4),
                   ("branch", TRUE, 4, 1), ("branch", TRUE, True, 1), ("branch", TRUE, 1, False), ("branch", TRUE, 1),
                   ("branch", TRUE, (1, 2)), ("branch", T, 1, 2), ("branch", TRUE, 1, 2, 3), ("branch", True, 1, 2))

    def test_switch(self):
        self.never(("switch", whole(W), (1, 2)), ("switch", field(H, 2), (1, 2, 3)))
        self.right(("switch", whole(L), (1, 1, 1)), ("switch", (ML, (DEREF,)), (3, 2, 1)), ("switch", whole(W), (0, 0)),
                   ("switch", (L, (("part", 1, 1), DEREF)), (1, 2, 3)))
        self.wrong(("switch", whole(L), (1, 2)), ("switch", whole(L), (1, 2, 3, 3)), ("switch", whole(L), ()),
                   ("switch", whole(L), (1, 2, 4)), ("switch", whole(L), (1, 2, True)), ("switch", whole(P), (1, 2)),
                   ("switch", whole(ML), (1, 2, 3)), ("switch", L, (1, 2, 3)), ("switch", whole(W), 1, 2),
                   ("switch", ("move", W), (1, 2)), ("switch", whole(W), None), ("switch", copied(T), (1, 2)),
                   ("switch", whole(W), 1), ("switch", whole(I), ()))

    def test_par(self):
        for way in (("par", 1, 2, 3), ("par", 2, 1, 3)):
            self.assertIs(is_mir(ways(way, JOIN, JOIN, RETURN)), True)
            for other in [*replaced(way, NEVER + (True, 4)), *longer(way, NEVER + ((),))]:
                with self.subTest(other):
                    self.assertIs(is_mir(ways(other, JOIN, JOIN, RETURN)), False)
                    self.assertIs(is_mir(ways(RETURN, RETURN, other, RETURN)), False)
        self.wrong(("par",), ("par", 1), ("par", 1, 2), ("par", (1, 2, 3)))

    def test_return_and_join(self):
        self.never(RETURN)
        self.wrong(("return", 0), ("return", ZERO), ("join", 0), "return", ("returns",))
        self.assertIs(is_mir(ways(RETURN, JOIN)), True)
        self.assertIs(is_mir(ways(RETURN, ("join", 0))), False)

    def test_other_things(self):
        self.wrong(None, True, 0, "go", (), ((),), ("x",), ("x", 1), (1,), (None,), ("drop", 1), ("show", ZERO),
                   ("if", TRUE, 1, 2))

    def test_a_statement_in_each_block_is_looked_at(self):
        bad, good = ("show", MOVE_P), ("show", ZERO)
        for at in range(3):
            for behind in range(3):
                blocks = [((good, good, good), RETURN)] * 3
                self.assertIs(is_mir(program_of_blocks(*blocks)), True)
                statements = [good] * 3
                statements[behind] = bad
                blocks[at] = (tuple(statements), RETURN)
                self.assertIs(is_mir(program_of_blocks(*blocks)), False)


class DepthTest(unittest.TestCase):

    def test_boxes_and_vecs_12_deep(self):
        for many, right in ((10, True), (11, False)):
            within = deep_kind("box", many)
            kinds = (INT, within, ("box", within), ("vec", within))
            statements = (put(2, ("box", ("move", 1), within)), put(3, ("vec", within)), put(1, ("unbox", 2)))
            self.assertIs(is_mir((((), ()), ((0, kinds, ((statements, RETURN),), ()),), 0)), right)


if __name__ == "__main__":
    unittest.main()
