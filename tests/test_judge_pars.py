"""Point 5.7, the sides of pars: "join" and "apart"."""

import unittest

from helpers import BOOL, INT, LIST, PAIR
from judge_helpers import refusal, refusal_of_text
from mir_helpers import DEREF, JOIN, RETURN, TRUE, ZERO, copied, field, item, main_of, put, whole

REF = ("ref", INT)
SET_1 = put(1, ("use", ZERO))
END = ((put(0, ("use", ZERO)),), RETURN)
NEW_PAIR = ("record", 0, (ZERO, TRUE))


class JoinTest(unittest.TestCase):

    kinds = (INT, INT, BOOL)

    def check(self, wanted, *blocks):
        self.assertEqual(refusal(main_of(self.kinds, *blocks)), wanted)

    def test_a_first_side_without_a_join(self):
        self.check((0, 0, 1, "join"), ((SET_1,), ("par", 1, 2, 3)), ((), ("go", 1)), ((), JOIN), END)
        self.check((0, 0, 0, "join"), ((), ("par", 1, 2, 3)), ((), ("branch", TRUE, 1, 4)), ((), JOIN), END,
                   ((), ("go", 1)))

    def test_a_join_that_cannot_be_come_to(self):
        # The inner par's first side never ends, so the outer one's first side does not, either.
        self.check((0, 0, 0, "join"), ((), ("par", 1, 2, 3)), ((), ("par", 4, 5, 6)), ((), JOIN), END, ((), ("go", 4)),
                   ((), JOIN), ((), JOIN))

    def test_one_of_two_ways_ends(self):
        self.check(None, ((), ("par", 1, 2, 3)), ((), ("branch", TRUE, 1, 4)), ((), JOIN), END, ((), JOIN))
        self.check((0, 4, 0, "join"), ((), ("par", 1, 2, 3)), ((), ("branch", TRUE, 4, 5)), ((), JOIN), END,
                   ((), ("par", 6, 7, 8)), ((), JOIN), ((), ("go", 6)), ((), JOIN), ((), JOIN))

    def test_a_second_side_without_a_join(self):
        self.check(None, ((), ("par", 1, 2, 3)), ((), JOIN), ((), ("go", 2)), ((), RETURN))

    def test_joins_ahead_of_what_sides_touch(self):
        touching = ((SET_1,), ("go", 1))
        self.check((0, 0, 0, "join"), ((), ("par", 1, 2, 3)), touching, ((SET_1, ("show", ZERO)), JOIN), END)


# Locals of functions whose sides touch something.
KINDS = (INT, INT, PAIR, ("vec", INT), LIST, ("box", INT), INT, BOOL, PAIR, ("box", INT), ("mut", PAIR), REF, BOOL)
AHEAD = (
    SET_1, put(2, NEW_PAIR), put(3, ("vec", INT)), put(4, ("variant", 0, 0, ())), put(5, ("box", ZERO, INT)),
    put(6, ("use", ZERO)), put(7, ("use", TRUE)), put(8, NEW_PAIR), put(9, ("box", ZERO, INT)), put(12, ("use", TRUE)),
)
ENDING = tuple(("end", local) for local in (2, 3, 4, 5, 8, 9)) + (put(0, ("use", ZERO)),)


def apart(first, second, ahead=AHEAD):
    """What the judge says of a par with these statements in its sides."""
    return refusal(main_of(KINDS, (ahead, ("par", 1, 2, 3)), (first, JOIN), (second, JOIN), (ENDING, RETURN)))


class ApartTest(unittest.TestCase):

    def check(self, first, second, wanted):
        for one, other in ((first, second), (second, first)):
            with self.subTest((one, other)):
                found = apart(one, other)
                self.assertEqual(found == (0, 0, len(AHEAD), "apart"), wanted, found)

    def test_reads_and_reads(self):
        for read in (copied(1), ("copy", field(2, 0)), ("copy", item(3, ZERO)), ("copy", (5, (DEREF,)))):
            self.assertIsNone(apart((put(0, ("use", read)),), (put(6, ("use", read)),)))
        self.assertIsNone(apart((put(11, ("lend", "ref", whole(1))),), (put(6, ("use", copied(1))),)))
        self.assertIsNone(apart((put(0, ("len", whole(3))),), (put(6, ("len", whole(3))),)))

    def test_a_read_and_each_other_touch(self):
        read = (put(0, ("use", ("copy", field(2, 0)))),)
        for other in (
            ("set", field(2, 0), ("use", ZERO)), put(2, NEW_PAIR), ("drop", 2), ("end", 2), ("open", 2, (6, 7)),
            put(8, ("use", ("move", 2))), put(10, ("lend", "mut", whole(2))), put(9, ("box", ZERO, INT)),
            ("set", field(2, 1), ("use", TRUE)), put(11, ("lend", "ref", whole(2))),
            put(7, ("use", ("copy", field(2, 1)))),
        ):
            wanted = other in (
                ("set", field(2, 0), ("use", ZERO)), put(2, NEW_PAIR), ("drop", 2), ("end", 2), ("open", 2, (6, 7)),
                put(8, ("use", ("move", 2))), put(10, ("lend", "mut", whole(2))),
            )
            if other != put(11, ("lend", "ref", whole(2))):
                self.check(read, (other,), wanted)

    def test_changes_and_takes(self):
        for one, other, wanted in (
            (SET_1, SET_1, True), (SET_1, put(6, ("use", ZERO)), False),
            (SET_1, put(6, ("use", copied(1))), True),
            (("set", field(2, 0), ("use", ZERO)), ("set", field(2, 1), ("use", TRUE)), False),
            (("set", field(2, 0), ("use", ZERO)), ("set", field(2, 0), ("use", ZERO)), True),
            (("set", field(2, 0), ("use", ZERO)), put(2, NEW_PAIR), True),
            (("set", field(2, 0), ("use", ZERO)), ("set", field(8, 0), ("use", ZERO)), False),
            (("push", whole(3), ZERO), ("push", whole(3), ZERO), True),
            (("push", whole(3), ZERO), put(6, ("len", whole(3))), True),
            (("push", whole(3), ZERO), put(6, ("use", ("copy", item(3, ZERO)))), True),
            (("take", 1, whole(3)), put(6, ("len", whole(3))), True),
            (("take", 1, whole(3)), put(6, ("use", copied(1))), True),
            (("set", item(3, ZERO), ("use", ZERO)), ("set", item(3, ("num", 1)), ("use", ZERO)), True),
            (("set", (4, (("part", 1, 0),)), ("use", ZERO)), ("set", (4, (("part", 2, 0),)), ("use", TRUE)), True),
            (put(1, ("unbox", 5)), put(6, ("use", ("copy", (5, (DEREF,))))), True),
            (put(1, ("unbox", 5)), put(6, ("unbox", 9)), False),
            (("drop", 5), ("drop", 5), True), (("drop", 5), ("end", 9), False), (("end", 5), ("end", 5), True),
            (("end", 1), put(6, ("use", copied(1))), True),
            (("unpack", 4, 0, ()), put(1, ("use", ("copy", (4, (("part", 1, 0),))))), True),
            (("unpack", 4, 2, (7, 8)), put(12, ("use", copied(7))), True),
            (("open", 2, (1, 7)), put(6, ("use", copied(1))), True),
            (("open", 2, (1, 7)), put(12, ("not", copied(12))), False),
            (("call", 1, 0, ()), put(6, ("use", copied(1))), True),
        ):
            self.check((one,), (other,), wanted)

    def test_operands_and_indexes(self):
        for other in (
            put(0, ("op", "+", ZERO, copied(1))), put(0, ("use", ("copy", item(3, copied(1))))),
            ("set", item(3, copied(1)), ("use", ZERO)), ("push", whole(3), copied(1)), put(5, ("box", copied(1), INT)),
            put(2, ("record", 0, (copied(1), TRUE))), put(0, ("len", (3, ()))),
        ):
            self.check((SET_1,), (other,), other != put(0, ("len", (3, ()))))

    def test_references(self):
        kinds = (INT, PAIR, ("mut", PAIR), ("ref", PAIR), ("ref", INT), ("mut", INT), ("mut", BOOL), ("mut", PAIR))
        end = ((put(0, ("use", ZERO)), ("end", 1)), RETURN)
        lends = (put(1, NEW_PAIR), put(2, ("lend", "mut", whole(1))))
        read = put(0, ("use", ("copy", (2, (DEREF, ("field", 0))))))
        for first, second, wanted in (
            ((("set", (2, (DEREF, ("field", 0))), ("use", ZERO)),), (("set", (2, (DEREF, ("field", 1))),
                                                                      ("use", TRUE)),), None),
            ((("set", (2, (DEREF, ("field", 0))), ("use", ZERO)),), (("set", (2, (DEREF, ("field", 0))),
                                                                      ("use", ZERO)),),
             "apart"),
            ((("set", (2, (DEREF, ("field", 0))), ("use", ZERO)),), (read,), "apart"),
            ((put(5, ("lend", "mut", (2, (DEREF, ("field", 0))))),), (put(6,
                ("lend", "mut", (2, (DEREF, ("field", 1))))),), None),
            ((put(7, ("use", ("move", 2))),), (read,), "apart"),
            ((read,), (("drop", 2),), "apart"), ((read,), (("end", 2),), "apart"),
            ((("end", 2),), (("drop", 2),), "apart"),
            ((("drop", 4),), (("drop", 4),), "apart"), ((("drop", 4),), (("end", 5),), None),
            ((("end", 4),), (put(4, ("lend", "ref", (2, (DEREF, ("field", 0))))),), "apart"),
            ((("end", 3),), (read,), None),
        ):
            program = main_of(kinds, (lends, ("par", 1, 2, 3)), (first, JOIN), (second, JOIN), end)
            with self.subTest((first, second)):
                found = refusal(program)
                self.assertEqual(found == (0, 0, 2, "apart"), wanted is not None, found)

    def test_ways(self):
        kinds = (INT, BOOL, LIST, BOOL)
        end = ((put(0, ("use", ZERO)), ("end", 2)), RETURN)
        ahead = (put(1, ("use", TRUE)), put(2, ("variant", 0, 0, ())))
        for change, way, wanted in (
            (put(1, ("use", TRUE)), ("branch", copied(1), 4, 4), (0, 0, 2, "apart")),
            (put(1, ("use", TRUE)), ("switch", whole(2), (4, 4, 4)), None),
            (put(2, ("variant", 0, 0, ())), ("switch", whole(2), (4, 4, 4)), (0, 0, 2, "apart")),
            (put(2, ("variant", 0, 0, ())), ("branch", copied(1), 4, 4), None),
            (put(3, ("use", copied(1))), ("branch", copied(1), 4, 4), None),
        ):
            for first, second in (((), (change,)), ((change,), ())):
                blocks = [(ahead, ("par", 1, 2, 3)), (first, JOIN), (second, JOIN), end, ((), JOIN)]
                blocks[1 if first == () else 2] = ((), way)
                with self.subTest((change, way)):
                    self.assertEqual(refusal(main_of(kinds, *blocks)), wanted)

    def test_all_blocks_of_the_sides_and_no_others(self):
        kinds = (INT, INT, INT, INT)
        ahead = (SET_1, put(2, ("use", ZERO)), put(3, ("use", ZERO)))
        base = [
            (ahead, ("par", 1, 5, 9)),
            ((), ("par", 2, 3, 4)), ((), JOIN), ((), JOIN), ((), JOIN),
            ((), ("branch", TRUE, 6, 7)), ((), ("go", 8)), ((), ("go", 8)), ((), JOIN),
            END,
        ]
        for one in range(10):
            for other in range(10):
                blocks = list(base)
                blocks[one] = ((SET_1,) + blocks[one][0], blocks[one][1])
                blocks[other] = (blocks[other][0] + (SET_1,), blocks[other][1])
                outer = one in (1, 2, 3, 4) and other in (5, 6, 7, 8) or other in (1, 2, 3, 4) and one in (5, 6, 7, 8)
                wanted = (0, 0, len(blocks[0][0]), "apart") if outer else None
                if {one, other} == {2, 3}:
                    wanted = (0, 1, 0, "apart")
                with self.subTest((one, other)):
                    self.assertEqual(refusal(main_of(kinds, *blocks)), wanted)

    def test_blocks_that_cannot_be_come_to(self):
        blocks = (((SET_1,), ("par", 1, 2, 3)), ((SET_1,), JOIN), ((), JOIN), END, ((SET_1,), ("go", 2)),
                  ((SET_1,), JOIN))
        self.assertIsNone(refusal(main_of((INT, INT), *blocks)))

    def test_the_inner_par_alone(self):
        blocks = [((SET_1,), ("par", 1, 2, 3)), ((), JOIN), ((), ("par", 4, 5, 6)), END, ((SET_1,), JOIN),
                  ((put(0, ("use", copied(1))),), JOIN), ((), JOIN)]
        self.assertEqual(refusal(main_of((INT, INT), *blocks)), (0, 2, 0, "apart"))

    def test_two_pars_one_behind_the_other(self):
        blocks = (((), ("par", 1, 2, 3)), ((SET_1,), JOIN), ((), JOIN), ((), ("par", 4, 5, 6)), ((SET_1,), JOIN),
                  ((), JOIN),
                  END)
        self.assertIsNone(refusal(main_of((INT, INT), *blocks)))

    def test_a_side_that_comes_back_to_its_beginning(self):
        blocks = (((SET_1,), ("par", 1, 2, 3)), ((SET_1,), ("branch", TRUE, 1, 4)), ((), ("branch", TRUE, 5, 2)), END,
                  ((), JOIN), ((put(0, ("use", copied(1))),), JOIN))
        self.assertEqual(refusal(main_of((INT, INT), *blocks)), (0, 0, 1, "apart"))


class TextTest(unittest.TestCase):

    def check(self, wanted, text):
        with self.subTest(text):
            found = refusal_of_text("record pair { one: int, two: int }\n" + text)
            self.assertEqual(found and found[3], wanted)

    def test_texts(self):
        start = "fn main() -> int { let a: int = 1; let b: int = 2; let p: pair = pair(1, 2); "
        for sides, wanted in (
            ("par { a = 2; } { b = 3; }", None), ("par { a = b; } { b = 3; }", "apart"),
            ("par { a = b; } { p.one = b; }", None),
            ("par { p.one = 1; } { p.two = 2; }", None), ("par { p.one = 1; } { p = pair(3, 4); }", "apart"),
            ("par { let c: int = a; } { let c: int = a; }", None), ("par { show a; } { }", "show"),
            ("par { while true { } } { a = 1; }", None),
            ("let r: ref int = ref a; par { b = *r; } { a = 1; }", "lent"),
            ("let r: ref int = ref a; par { a = 1; } { b = *r; }", "lent"),
            ("let r: mut int = mut a; par { *r = 1; } { b = 1; }", None),
            ("let r: mut pair = mut p; par { (*r).one = 1; } { (*r).two = 1; }", None),
        ):
            self.check(wanted, start + sides + " return a + b; }")


if __name__ == "__main__":
    unittest.main()
