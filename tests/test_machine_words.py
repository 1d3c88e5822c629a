"""Points 7.1, 7.2, 7.6 and 7.7: words, marks, words of another kind, and what dropping reads and gives back."""

import unittest

from helpers import BOOL, INT
from machine_helpers import ALLOCATORS
from mir_helpers import DEREF, RETURN, TRUE, ZERO, copied, field, item, main_of, put, straight, whole
from oneowner.judge import taken
from oneowner.machine import run_machine
from oneowner.mir import is_mir

BOX, VEC, REF, MUT = ("box", INT), ("vec", INT), ("ref", INT), ("mut", INT)
ONE, FIVE = ("num", 1), ("num", 5)
# Variant 0 has a tag for each kind of part; variant 1 lies in it.
V, W = ("variant", 0), ("variant", 1)
NUM, NUMS, TRUTH, HELD, ROW, WITHIN, BARE, BOXES, DEEP = range(9)
BOOK = (
    ((W, INT), (BOX, VEC, BOX)),
    (
        ((INT,), (INT, INT, INT), (BOOL,), (BOX,), (VEC,), (W,), (), (BOX, BOX), (("box", BOX),)),
        ((), (INT,), (BOX,), ()),
    ),
)
DONE = put(0, ("use", ZERO))
LOCALS = (INT, V, V, INT, BOOL, BOX, VEC, W, REF, ("ref", BOOL), ("mut", BOX), ("mut", VEC), ("ref", W), ("mut", W),
          MUT, BOX)
I, T, B, ROW_LOCAL, INNER, RI, RT, MB, MR, RW, MW, MI, B2 = range(3, 16)


def show(local):
    return ("show", ("copy", (local, (DEREF,))))


def made(tag, *operands):
    return ("variant", 0, tag, operands)


def part(local, tag, at=0):
    return (local, (("part", tag, at),))


def lent(local, word, place):
    return put(local, ("lend", word, place))


NEW_BOX = (put(B, ("box", FIVE, INT)),)
NEW_VEC = (put(ROW_LOCAL, ("vec", INT)),)


class WordTest(unittest.TestCase):

    def check(self, word, outs, *statements, kinds=LOCALS, way=RETURN, more=()):
        program = main_of(kinds, (statements, way), *more, book=BOOK)
        with self.subTest(statements):
            self.assertTrue(is_mir(program))
            self.assertFalse(taken(program))
            result = 0 if word == "done" else None
            for allocator in ALLOCATORS:
                self.assertEqual(repr(run_machine(program, (), allocator, (), 1000)), repr((outs, word, result)))


class OtherKindTest(WordTest):
    """Cells that hold words that were written there for another kind."""

    def test_as_a_bool_all_words_but_0_are_true(self):
        for number, truth in ((0, False), (1, True), (2, True), (2 ** 32 - 1, True)):
            ahead = (put(1, made(TRUTH, ("truth", not truth))), lent(RT, "ref", part(1, TRUTH)),
                     put(1, made(NUM, ("num", number))))
            self.check("done", (truth,), *ahead, show(RT), ("end", 1), DONE)
            self.check("done", (not truth,), *ahead, put(T, ("not", ("copy", (RT, (DEREF,))))), ("show", copied(T)),
                       ("end", 1), DONE)
            self.check("done", (truth,), *ahead, put(T, ("use", ("copy", (RT, (DEREF,))))), ("show", copied(T)),
                       ("end", 1), DONE)
            blocks = ((("show", ONE), ("end", 1), DONE), RETURN), ((("show", ZERO), ("end", 1), DONE), RETURN)
            self.check("done", (int(truth),), *ahead, way=("branch", ("copy", (RT, (DEREF,))), 1, 2), more=blocks)

    def test_an_address_as_a_bool(self):
        ahead = (put(1, made(TRUTH, ("truth", False))), lent(RT, "ref", part(1, TRUTH)), *NEW_BOX,
                 put(1, made(HELD, ("move", B))))
        self.check("done", (True,), *ahead, show(RT), ("end", 1), DONE)

    def test_an_address_of_an_empty_vec_is_0(self):
        ahead = (put(1, made(TRUTH, TRUE)), lent(RT, "ref", part(1, TRUTH)), *NEW_VEC)
        self.check("done", (False,), *ahead, put(1, made(ROW, ("move", ROW_LOCAL))), show(RT), ("end", 1), DONE)
        self.check("done", (True,), *ahead, ("push", whole(ROW_LOCAL), ONE), put(1, made(ROW, ("move", ROW_LOCAL))),
                   show(RT),
                   ("end", 1), DONE)
        self.check("done", (True,), *ahead, ("push", whole(ROW_LOCAL), ONE), ("take", I, whole(ROW_LOCAL)),
                   put(1, made(ROW, ("move", ROW_LOCAL))), show(RT), ("end", 1), DONE)

    def test_a_length_as_a_number(self):
        ahead = (put(1, made(NUMS, ONE, ONE, ONE)), lent(RI, "ref", part(1, NUMS, 1)), *NEW_VEC)
        for many in range(4):
            push = (("push", whole(ROW_LOCAL), FIVE),) * many
            self.check("done", (many,), *ahead, *push, put(1, made(ROW, ("move", ROW_LOCAL))), show(RI), ("end", 1),
                       DONE)

    def test_a_room_as_a_number(self):
        ahead = (put(1, made(NUMS, ONE, ONE, ONE)), lent(RI, "ref", part(1, NUMS, 2)), *NEW_VEC)
        for many, room in ((0, 0), (1, 1), (2, 2), (3, 4), (4, 4), (5, 8), (9, 16)):
            push = (("push", whole(ROW_LOCAL), FIVE),) * many
            self.check("done", (room,), *ahead, *push, put(1, made(ROW, ("move", ROW_LOCAL))), show(RI), ("end", 1),
                       DONE)

    def test_numbers_of_tags(self):
        # The tag of the variant that lies within is a number for another tag.
        ahead = (put(1, made(NUM, ONE)), lent(RI, "ref", part(1, NUM)))
        for tag in (0, 3):
            self.check("done", (tag,), *ahead, put(INNER, ("variant", 1, tag, ())),
                       put(1, made(WITHIN, ("move", INNER))),
                       show(RI), ("end", 1), DONE)

    def switch(self, number, *statements):
        ahead = (put(INNER, ("variant", 1, 0, ())), put(1, made(WITHIN, ("move", INNER))),
                 lent(MW, "mut", part(1, WITHIN)),
                 put(1, made(NUM, ("num", number))))
        return ahead + statements

    def test_a_switch_on_a_number(self):
        ends = tuple((((("show", ("num", at)), ("end", 1), DONE)), RETURN) for at in range(4))
        way = ("switch", (MW, (DEREF,)), (1, 2, 3, 4))
        for number in range(4):
            self.check("done", (number,), *self.switch(number), way=way, more=ends)
        for number in (4, 5, 9, 2 ** 32 - 1):
            self.check("tag", (), *self.switch(number), way=way, more=ends)

    def test_a_part_of_a_number(self):
        for number, word in ((0, "tag"), (2, "tag"), (4, "tag"), (2 ** 32 - 1, "tag"), (1, "unset")):
            self.check(word, (), *self.switch(number), ("show", ("copy", (MW, (DEREF, ("part", 1, 0))))), DONE)

    def test_a_tag_that_is_none_has_no_parts(self):
        # What lies there is dropped without more words, and another value comes there.
        other = ("set", (MW, (DEREF,)), ("variant", 1, 3, ()))
        for number in (0, 1, 3, 4, 77, 2 ** 32 - 1):
            self.check("done", (), *self.switch(number, other), ("end", 1), DONE)
        self.check("unset", (), *self.switch(2, other), DONE)

    def test_a_box_that_is_a_number(self):
        ahead = (*NEW_BOX, put(1, made(HELD, ("move", B))), lent(MB, "mut", part(1, HELD)))
        for number in (0, 1, 2, 9, 2 ** 32 - 1):
            other = put(1, made(NUM, ("num", number)))
            self.check("free", (), *ahead, other, put(B2, ("box", ONE, INT)),
                       ("set", (MB, (DEREF,)), ("use", ("move", B2))))
            self.check("unowned", (), *ahead, other, ("show", ("copy", (MB, (DEREF, DEREF)))))
            self.check("unowned", (), *ahead, other, ("set", (MB, (DEREF, DEREF)), ("use", ONE)))

    def test_a_vec_that_is_of_numbers(self):
        ahead = (*NEW_VEC, put(1, made(ROW, ("move", ROW_LOCAL))), lent(MR, "mut", part(1, ROW)))
        row = (MR, (DEREF,))
        for numbers, statement, word, outs in (
            ((0, 0, 0), put(I, ("len", row)), "done", ()), ((7, 8, 9), ("show",
                ("copy", (MR, (DEREF, ("index", ZERO))))),
                                                          "unowned", ()),
            ((7, 8, 9), ("show", ("copy", (MR, (DEREF, ("index", ("num", 8)))))), "bound", ()),
            ((7, 0, 9), ("take", I, row), "empty", ()), ((7, 1, 9), ("take", I, row), "unowned", ()),
            ((7, 3, 9), ("push", row, ONE), "unowned", ()), ((7, 3, 3), ("push", row, ONE), "unowned", ()),
            ((7, 0, 0), ("push", row, ONE), "free", ()), ((0, 1, 1), ("push", row, ONE), "unowned", ()),
            ((0, 2 ** 32 - 1, 2 ** 32 - 1), ("push", row, ONE), "unowned", ()),
            ((7, 0, 0), ("set", row, ("vec", INT)), "free", ()), ((7, 1, 1), ("set", row, ("vec", INT)), "free", ()),
            ((0, 9, 9), ("set", row, ("vec", INT)), "done", ()),
        ):
            other = put(1, made(NUMS, *[("num", number) for number in numbers]))
            self.check(word, outs, *ahead, other, statement, ("end", 1), DONE)
        # A vec without a block gets one of one word.
        other = put(1, made(NUMS, ZERO, ZERO, ZERO))
        self.check("held", (1,), *ahead, other, ("push", row, ONE), ("show", ("copy", (MR, (DEREF, ("index", ZERO))))),
                   ("end", 1), DONE)

    def test_reading_a_vec_needs_all_its_words(self):
        ahead = (*NEW_VEC, put(1, made(ROW, ("move", ROW_LOCAL))), lent(MR, "mut", part(1, ROW)),
                 put(1, made(NUM, ZERO)))
        row = (MR, (DEREF,))
        for statement in (("push", row, ONE), put(I, ("len", row)), ("take", I, row), ("set", row, ("vec", INT)),
                          ("show", ("copy", (MR, (DEREF, ("index", ZERO)))))):
            self.check("unset", (), *ahead, statement, ("end", 1), DONE)


class MarkTest(WordTest):
    """A word that is an address goes with its mark wherever it is moved or copied."""

    # A number that is the address of a box, with its mark, comes to the local I and to another variant.
    ahead = (
        put(1, made(NUM, ONE)), lent(RI, "ref", part(1, NUM)), *NEW_BOX, put(1, made(HELD, ("move", B))),
        put(I, ("use", ("copy", (RI, (DEREF,))))),
        put(B2, ("box", ONE, INT)), put(2, made(HELD, ("move", B2))), lent(MB, "mut", part(2, HELD)),
        put(2, made(NUM, copied(I))),
    )

    def test_it_is_an_address_again(self):
        self.check("held", (5,), *self.ahead, ("show", ("copy", (MB, (DEREF, DEREF)))), DONE)
        self.check("done", (5,), *self.ahead, ("show", ("copy", (MB, (DEREF, DEREF)))), ("end", 1), ("end", 2), DONE)

    def test_a_sum_is_no_address(self):
        other = (put(I, ("op", "+", copied(I), ZERO)), put(2, made(NUM, copied(I))))
        self.check("unowned", (), *self.ahead, *other, ("show", ("copy", (MB, (DEREF, DEREF)))), DONE)

    def test_numbers_have_no_holding(self):
        # The first holding is the block at the address 1; a number 1 is no address of it.
        ahead = (put(B2, ("box", FIVE, INT)), *NEW_BOX, put(1, made(HELD, ("move", B))), lent(MB, "mut", part(1, HELD)))
        show_it = ("show", ("copy", (MB, (DEREF, DEREF))))
        again = ("set", (MB, (DEREF,)), ("box", ONE, INT))
        for operand in (ONE, ("copy", whole(I))):
            other = (put(I, ("use", ONE)), put(1, made(NUM, operand)))
            self.check("unowned", (), *ahead, *other, show_it)
            self.check("free", (), *ahead, *other, again)
        for rvalue in (("op", "+", ZERO, ONE), ("op", "*", ONE, ONE), ("len", whole(ROW_LOCAL)),
                       ("op", "-", ONE, ZERO)):
            other = (*NEW_VEC, ("push", whole(ROW_LOCAL), ONE), put(I, rvalue), put(1, made(NUM, copied(I))))
            self.check("unowned", (), *ahead, *other, show_it)
            self.check("free", (), *ahead, *other, again)

    def test_given_back_twice(self):
        again = ("set", (MB, (DEREF,)), ("use", ("move", B2)))
        box = put(B2, ("box", ONE, INT))
        # It is given back through the other variant, and then with its own one.
        self.check("free", (), *self.ahead, box, again, ("drop", 1))
        self.check("free", (), *self.ahead, box, again, ("end", 1))
        self.check("free", (), *self.ahead, box, again, put(1, made(BARE)))
        # The other way around; also if its block was given out again.
        self.check("free", (), *self.ahead, ("drop", 1), box, again)
        self.check("free", (), *self.ahead, ("drop", 1), *NEW_BOX, box, again)
        self.check("unowned", (), *self.ahead, ("drop", 1), *NEW_BOX, ("show", ("copy", (MB, (DEREF, DEREF)))), DONE)

    def test_the_address_of_an_item_is_no_block(self):
        # The second item of a vec of boxes lies where no block begins.
        kinds = LOCALS + (("vec", BOX), ("mut", BOX))
        self.check("free", (), *NEW_VEC, ("push", whole(ROW_LOCAL), ONE), ("push", whole(ROW_LOCAL), ONE),
                   *NEW_BOX, put(1, made(HELD, ("move", B))), lent(MB, "mut", part(1, HELD)), put(1, made(NUM, ONE)),
                   put(B2, ("box", ONE, INT)), ("set", (MB, (DEREF,)), ("use", ("move", B2))), kinds=kinds)

    def test_the_address_of_a_local_is_no_block(self):
        # A reference's word can come to a number only through a room that is there no more.
        kinds = (INT, MUT, MUT)
        self.check("unowned", (), put(0, ("use", ONE)), lent(1, "mut", whole(0)), ("end", 0), put(0, ("use", ONE)),
                   ("set", (1, (DEREF,)), ("use", FIVE)), kinds=kinds)


class DropTest(WordTest):
    """What dropping reads, and in which order it gives back."""

    boxes = ("record", 1)
    kinds = (INT, BOX, VEC, BOX, boxes, ("box", boxes), ("vec", boxes), ("mut", INT), ("ref", BOX), ("vec", BOX),
             ("box", BOX),
             V, REF)
    fill = (put(1, ("box", ONE, INT)), put(2, ("vec", INT)), ("push", whole(2), ONE), put(3, ("box", FIVE, INT)),
            put(4, ("record", 1, (("move", 1), ("move", 2), ("move", 3)))))

    def done(self, *statements, outs=()):
        program = straight(self.kinds, *statements, DONE, book=BOOK)
        with self.subTest(statements):
            self.assertTrue(is_mir(program))
            for allocator in ALLOCATORS:
                self.assertEqual(run_machine(program, (), allocator, (), 1000), (outs, "done", 0))

    def test_values_within_each_other(self):
        box = put(5, ("box", ("move", 4), self.boxes))
        push = ("push", whole(6), ("move", 4))
        for end in ("drop", "end"):
            self.done(*self.fill, (end, 4))
            self.done(*self.fill, box, (end, 5))
            self.done(*self.fill, put(6, ("vec", self.boxes)), push, *self.fill, push, *self.fill, push, (end, 6))
            self.done(put(6, ("vec", self.boxes)), (end, 6))
            self.done(put(1, ("box", ONE, INT)), put(10, ("box", ("move", 1), BOX)), put(11, made(DEEP, ("move", 10))),
                      (end, 11))
            self.done(put(1, ("box", ONE, INT)), put(3, ("box", ONE, INT)),
                      put(11, made(BOXES, ("move", 1), ("move", 3))),
                      (end, 11))
        for statements in (self.fill, self.fill + (box,), self.fill + (put(6, ("vec", self.boxes)), push)):
            self.check("held", (), *statements, DONE, kinds=self.kinds)

    def test_a_value_that_comes_where_one_is(self):
        self.done(*self.fill, *self.fill, ("end", 4))
        self.done(*self.fill, ("set", field(4, 0), ("box", ONE, INT)), ("set", field(4, 1), ("vec", INT)), ("end", 4))
        self.done(put(1, ("box", ONE, INT)), put(1, ("box", ONE, INT)), put(1, ("box", ONE, INT)), ("end", 1))
        self.done(put(1, ("box", ONE, INT)), put(10, ("box", ("move", 1), BOX)),
                  ("set", (10, (DEREF,)), ("box", ONE, INT)),
                  ("end", 10))
        self.done(put(1, ("box", ONE, INT)), put(11, made(HELD, ("move", 1))), put(11, made(BARE)), ("end", 11))
        self.done(put(1, ("box", ONE, INT)), put(11, made(HELD, ("move", 1))),
                  ("set", part(11, HELD), ("box", ONE, INT)),
                  ("end", 11))

    def test_targets_that_are_there(self):
        pair = put(1, ("box", ONE, INT)), put(3, ("box", ONE, INT))
        back = (0, (BOX,), (((put(0, ("box", FIVE, INT)),), RETURN),), ())
        for kinds, statements in (
            (self.kinds, (*self.fill, put(1, ("box", ONE, INT)), put(3, ("box", ONE, INT)), put(2, ("vec", INT)),
                          ("push", whole(2), ONE), ("open", 4, (1, 2, 3)), ("end", 1), ("end", 2), ("end", 3))),
            (self.kinds, (*pair, put(11, made(BOXES, ("move", 1), ("move", 3))), *pair, ("unpack", 11, BOXES, (1, 3)),
                          ("end", 1),
                          ("end", 3))),
            (self.kinds, (*pair, put(9, ("vec", BOX)), ("push", whole(9), ("move", 1)), ("take", 3, whole(9)),
                          ("end", 3),
                          ("end", 9))),
            (self.kinds, (*pair, ("call", 1, 1, ()), ("call", 3, 1, ()), ("end", 1), ("end", 3))),
        ):
            program = straight(kinds, *statements, DONE, book=BOOK, others=(back,))
            self.assertTrue(is_mir(program))
            for allocator in ALLOCATORS:
                self.assertEqual(run_machine(program, (), allocator, (), 1000), ((), "done", 0))

    def test_what_is_not_there_is_not_dropped(self):
        # All fields are set again, but the record did not get a value as a whole.
        refill = tuple(("set", field(1, at), ("use", ("num", at))) for at in (0, 1))
        book = (((INT, INT), (BOX,)), ())
        kinds = (INT, ("record", 0), ("record", 1), BOX, ("mut", BOX))
        program = straight(kinds, put(1, ("record", 0, (ONE, ONE))), ("drop", 1), *refill, ("drop", 1),
                           ("show", ("copy", field(1, 1))), ("end", 1), DONE, book=book)
        for allocator in ALLOCATORS:
            self.assertEqual(run_machine(program, (), allocator, (), 100), ((1,), "done", 0))

    def test_a_set_of_a_part_that_is_not_there(self):
        # What lies there is dropped first, and that is not set.
        self.check("unset", (), *self.fill, ("open", 4, (1, 2, 3)), ("set", field(4, 0), ("use", ("move", 1))),
                   kinds=self.kinds)
        self.check("unset", (), *self.fill, ("open", 4, (1, 2, 3)), ("set", field(4, 1), ("use", ("move", 2))),
                   kinds=self.kinds)

    def test_what_a_box_holds_is_dropped_first(self):
        # The reference lends the inner box; its block must be there until the inner one was given back.
        ahead = (put(1, ("box", ONE, INT)), put(10, ("box", ("move", 1), BOX)), lent(8, "ref", (10, (DEREF,))),
                 ("drop", 10))
        self.check("unowned", (), *ahead, ("show", ("copy", (8, (DEREF, DEREF)))), kinds=self.kinds)

    def test_dropping_reads_nothing_of_kinds_without_blocks(self):
        # The number was never set anew, but it has no block.
        book = (((INT, INT),), (((INT,), (INT, INT)), ((), (BOX,))))
        kinds = (INT, ("record", 0), ("variant", 0), ("box", ("record", 0)), ("vec", ("variant", 0)),
                 ("mut", ("record", 0)))
        statements = (put(1, ("record", 0, (ONE, ONE))), put(3, ("box", ("move", 1), ("record", 0))),
                      lent(5, "mut", (3, (DEREF,))), ("set", (5, (DEREF, ("field", 0))), ("use", ONE)), ("end", 3),
                      put(4, ("vec", ("variant", 0))), put(2, ("variant", 0, 0, (ONE,))),
                      ("push", whole(4), ("move", 2)),
                      ("end", 4), ("end", 2), ("end", 1), DONE)
        for allocator in ALLOCATORS:
            self.assertEqual(run_machine(straight(kinds, *statements, book=book), (), allocator, (), 100),
                             ((), "done", 0))

    def test_dropping_a_variant_without_blocks_reads_no_tag(self):
        # The variant is not set when another one comes where it was.
        book = ((((("variant", 0)), INT),), (((INT,), ()),))
        kinds = (INT, ("record", 0), ("variant", 0))
        inner = put(2, ("variant", 0, 0, (FIVE,)))
        statements = (inner, put(1, ("record", 0, (("move", 2), ONE))), ("drop", 1), inner,
                      ("set", field(1, 0), ("use", ("move", 2))),
                      ("show", ("copy", (1, (("field", 0), ("part", 0, 0))))), DONE)
        for allocator in ALLOCATORS:
            found = run_machine(straight(kinds, *statements, book=book), (), allocator, (), 100)
            self.assertEqual(found, ((5,), "done", 0))
        # With a tag whose part has a block, its tag is read.
        book = ((((("variant", 0)), INT),), (((INT,), (BOX,)),))
        for allocator in ALLOCATORS:
            found = run_machine(straight(kinds, *statements, book=book), (), allocator, (), 100)
            self.assertEqual(found, ((), "unset", None))

    def test_a_set_over_what_is_not_set_of_a_kind_without_blocks(self):
        kinds = (INT, ("record", 0), INT, BOOL)
        book = (((INT, BOOL), (("record", 0), INT)), ())
        inner = put(1, ("record", 0, (ONE, TRUE)))
        outer = (INT, ("record", 0), ("record", 1))
        for allocator in ALLOCATORS:
            found = run_machine(straight(kinds, inner, ("drop", 1), ("set", field(1, 1), ("use", TRUE)),
                                         ("show", ("copy", field(1, 1))), DONE, book=book), (), allocator, (), 100)
            self.assertEqual(found, ((True,), "done", 0))
            found = run_machine(straight(outer, inner, put(2, ("record", 1, (("move", 1), ONE))), ("drop", 2), inner,
                                         ("set", field(2, 0), ("use", ("move", 1))), ("show", ("copy", field(2, 0, 0))),
                                         ("show", ("copy", field(2, 1))), DONE, book=book), (), allocator, (), 100)
            self.assertEqual(found, ((1,), "unset", None))

    def test_values_that_are_nested_far_deeper_than_calls(self):
        # A list of many boxes is dropped as a whole.
        book = ((), (((), (("box", ("variant", 0)),)),))
        kinds = (INT, ("variant", 0), ("box", ("variant", 0)), INT, BOOL)
        program = main_of(
            kinds, ((put(1, ("variant", 0, 0, ())), put(3, ("use", ZERO))), ("go", 1)),
            ((put(4, ("op", "<", copied(3), ("num", 3000))),), ("branch", copied(4), 2, 3)),
            ((put(2, ("box", ("move", 1), ("variant", 0))), put(1, ("variant", 0, 1, (("move", 2),))),
              put(3, ("op", "+", copied(3), ONE))), ("go", 1)),
            ((("end", 1), DONE), RETURN), book=book,
        )
        self.assertTrue(taken(program))
        self.assertEqual(run_machine(program, (), ("best", 4), (), 100000), ((), "done", 0))


class SizeTest(WordTest):
    """Blocks have their whole size, but what a box or vec has in them counts alone."""

    def test_variants_whose_tags_have_parts_of_other_sizes(self):
        kinds = (INT, V, V, INT, INT, INT, BOX, VEC, BOX)
        rows = (
            (made(NUM, ONE), NUM, (3,)), (made(NUMS, ONE, FIVE, ZERO), NUMS, (3, 4, 5)), (made(BARE), BARE, ()),
        )
        for one, tag, targets in rows:
            for other, _, _ in rows:
                statements = (put(1, other), put(1, one), put(2, ("use", ("move", 1))), ("unpack", 2, tag, targets))
                shows = tuple(("show", copied(target)) for target in targets)
                outs = tuple(operand[1] for operand in one[3])
                program = straight(kinds, *statements, *shows, DONE, book=BOOK)
                for allocator in ALLOCATORS:
                    self.assertEqual(run_machine(program, (), allocator, (), 100), (outs, "done", 0))

    def test_cells_that_a_variant_does_not_use_are_not_set(self):
        ahead = (put(1, made(NUMS, ONE, FIVE, ZERO)), lent(RI, "ref", part(1, NUMS, 1)), show(RI))
        for other in (made(NUM, ONE), made(BARE), made(TRUTH, TRUE)):
            self.check("unset", (5,), *ahead, put(1, other), show(RI))
            # Also where it lies in a box, as an item, or comes by a move.
            self.check("unset", (5,), *ahead, put(2, other), put(1, ("use", ("move", 2))), show(RI))
        kinds = LOCALS + (("vec", V),)
        rows = len(LOCALS)
        place = (rows, (("index", ZERO), ("part", NUMS, 1)))
        self.check("unset", (5,), put(rows, ("vec", V)), put(1, made(NUMS, ONE, FIVE, ZERO)),
                   ("push", whole(rows), ("move", 1)), lent(RI, "ref", place), show(RI),
                   ("set", item(rows, ZERO), made(NUM, ONE)), show(RI), kinds=kinds)

    def test_the_rest_of_a_block_is_no_item(self):
        # The units make blocks longer than their vec is.
        for allocator in ALLOCATORS:
            program = straight((INT, VEC), put(1, ("vec", INT)), ("push", whole(1), ONE),
                               ("show", ("copy", item(1, ONE))),
                               book=BOOK)
            self.assertEqual(run_machine(program, (), allocator, (), 100), ((), "bound", None))

    def test_what_lies_behind_a_block(self):
        # The words of a box and of two numbers are read as those of a vec, whose items lie in the block of the box.
        book = ((), (((BOX, INT, INT), (VEC,)),))
        kinds = (INT, ("variant", 0), VEC, ("mut", VEC), BOX)
        ahead = (put(2, ("vec", INT)), put(1, ("variant", 0, 1, (("move", 2),))),
                 put(3, ("lend", "mut", (1, (("part", 1, 0),)))),
                 put(4, ("box", FIVE, INT)), put(1, ("variant", 0, 0, (("move", 4), ("num", 99), ("num", 99)))))
        for allocator in ALLOCATORS:
            unit = allocator[1]
            for at in range(20):
                show_item = ("show", ("copy", (3, (DEREF, ("index", ("num", at))))))
                found = run_machine(straight(kinds, *ahead, show_item, ("end", 1), DONE, book=book), (), allocator, (),
                                    100)
                # The block has all the words of its size, but only the first one was ever set.
                word = "unset" if at < unit else "unowned"
                self.assertEqual(found, ((5,), "done", 0) if at == 0 else ((), word, None))
                set_item = ("set", (3, (DEREF, ("index", ("num", at)))), ("use", ONE))
                found = run_machine(straight(kinds, *ahead, set_item, show_item, ("end", 1), DONE, book=book), (),
                                    allocator,
                                    (), 100)
                self.assertEqual(found, ((1,), "done", 0) if at < unit else ((), "unowned", None))

    def test_items_without_words(self):
        book = (((), (INT,)), ())
        kind = ("record", 0)
        kinds = (INT, kind, ("vec", kind), INT, ("box", kind), kind)
        push = (put(1, ("record", 0, ())), ("push", whole(2), ("move", 1)))
        statements = (put(2, ("vec", kind)),) + push * 5 + (
            put(3, ("len", whole(2))), ("show", copied(3)), ("take", 5, whole(2)),
            put(3, ("len", whole(2))), ("show", copied(3)), put(4, ("box", ("move", 5), kind)), put(5, ("unbox", 4)),
            ("set", item(2, ZERO), ("use", ("move", 5))), ("end", 2), ("end", 1), ("end", 4), ("end", 5), DONE)
        program = straight(kinds, *statements, book=book)
        self.assertTrue(taken(program))
        for allocator in ALLOCATORS:
            self.assertEqual(run_machine(program, (), allocator, (), 100), ((5, 4), "done", 0))


if __name__ == "__main__":
    unittest.main()
