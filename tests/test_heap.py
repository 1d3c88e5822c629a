"""Part 6: allocators, blocks, pieces, the top, and which piece each policy takes."""

import unittest

from helpers import deep_thing
from oneowner.heap import Heap, is_allocator

POLICIES = ("first", "best", "next", "bump")
AGAIN = ("first", "best", "next")
UNITS = (1, 2, 4, 8)


class AllocatorTest(unittest.TestCase):

    def test_allocators(self):
        for policy in POLICIES:
            for unit in UNITS:
                self.assertIs(is_allocator((policy, unit)), True)

    def test_no_allocators(self):
        for thing in (
            (), ("first",), ("first", 1, 1), ("worst", 1), ("First", 1), ("", 1), (1, "first"), ("first", "1"), "first",
            ("first", 0), ("first", 3), ("first", 5), ("first", 6), ("first", 7), ("first", 9), ("first", 16),
            ("first", -1), ("first", True), ("first", False), ("first", None), (None, 1), (True, 1), (1, 1), 1, None,
            True, "", (("first", 1),), (("first",), 1), ("first", (1,)), ("first", 2 ** 40), deep_thing(5000),
            ("first", deep_thing(5000)), (deep_thing(5000), 1), (("first", "best"), 1),
        ):
            self.assertIs(is_allocator(thing), False)


def filled(allocator, *sizes):
    """A heap that has given out blocks of these sizes, and their addresses."""
    heap = Heap(allocator)
    return heap, [heap.take(size) for size in sizes]


class SizeTest(unittest.TestCase):

    def test_the_least_multiple_of_the_unit(self):
        for unit, many, size in (
            (1, 0, 1), (1, 1, 1), (1, 2, 2), (1, 7, 7), (2, 0, 2), (2, 1, 2), (2, 2, 2), (2, 3, 4), (2, 4, 4),
            (4, 0, 4),
            (4, 1, 4), (4, 4, 4), (4, 5, 8), (4, 8, 8), (4, 9, 12), (8, 0, 8), (8, 7, 8), (8, 8, 8), (8, 9, 16),
            (8, 1000, 1000), (8, 1001, 1008), (1, 10 ** 12, 10 ** 12),
        ):
            for policy in POLICIES:
                with self.subTest((policy, unit, many)):
                    heap = Heap((policy, unit))
                    self.assertEqual(heap.take(many), 1)
                    self.assertEqual(heap.blocks(), ((1, size),))
                    self.assertEqual(heap.size(1), size)
                    self.assertEqual(heap.top(), 1 + size)
                    self.assertEqual(heap.pieces(), ())

    def test_the_size_of_what_is_no_block(self):
        heap, (one, two) = filled(("first", 4), 3, 6)
        self.assertEqual((one, two), (1, 5))
        self.assertEqual([heap.size(at) for at in range(-1, 15)], [0, 0, 4, 0, 0, 0, 8, 0, 0, 0, 0, 0, 0, 0, 0, 0])
        heap.give(one)
        self.assertEqual(heap.size(one), 0)
        self.assertEqual(heap.size(two), 8)


class NewHeapTest(unittest.TestCase):

    def test_a_new_heap(self):
        for policy in POLICIES:
            heap = Heap((policy, 2))
            self.assertEqual((heap.blocks(), heap.pieces(), heap.top(), heap.size(1)), ((), (), 1, 0))
            for address in (0, 1, -1, 5):
                self.assertIs(heap.give(address), False)
            self.assertEqual((heap.blocks(), heap.pieces(), heap.top(), heap.size(1)), ((), (), 1, 0))

    def test_blocks_one_behind_the_other(self):
        for policy in POLICIES:
            heap, found = filled((policy, 2), 1, 0, 5, 2)
            self.assertEqual(found, [1, 3, 5, 11])
            self.assertEqual(heap.blocks(), ((1, 2), (3, 2), (5, 6), (11, 2)))
            self.assertEqual((heap.pieces(), heap.top()), ((), 13))


class GiveTest(unittest.TestCase):

    def give_all(self, heap, *addresses):
        for address in addresses:
            self.assertIs(heap.give(address), True)

    def test_where_no_block_begins(self):
        for policy in POLICIES:
            heap, _ = filled((policy, 4), 4, 4, 4)
            self.give_all(heap, 5)
            for address in (0, -3, 2, 4, 5, 6, 8, 10, 13, 14, 100):
                self.assertIs(heap.give(address), False)
            self.assertEqual((heap.blocks(), heap.pieces(), heap.top()), (((1, 4), (9, 4)), ((5, 4),), 13))

    def test_twice(self):
        for policy in POLICIES:
            heap, found = filled((policy, 1), 3, 3, 3)
            self.give_all(heap, found[1])
            self.assertIs(heap.give(found[1]), False)
            self.assertEqual((heap.blocks(), heap.pieces(), heap.top()), (((1, 3), (7, 3)), ((4, 3),), 10))

    def test_given_out_again_and_back_again(self):
        for policy in AGAIN:
            heap, found = filled((policy, 1), 3, 3, 3)
            self.give_all(heap, found[1])
            self.assertEqual(heap.take(2), 4)
            self.give_all(heap, 4)
            self.assertIs(heap.give(4), False)
            self.assertEqual(heap.pieces(), ((4, 3),))

    def test_a_piece_between_blocks(self):
        for policy in POLICIES:
            heap, _ = filled((policy, 1), 2, 3, 4)
            self.give_all(heap, 3)
            self.assertEqual((heap.blocks(), heap.pieces(), heap.top()), (((1, 2), (6, 4)), ((3, 3),), 10))

    def test_behind_a_piece(self):
        for policy in POLICIES:
            heap, _ = filled((policy, 1), 2, 3, 4, 5)
            self.give_all(heap, 1, 3)
            self.assertEqual(heap.pieces(), ((1, 5),))

    def test_ahead_of_a_piece(self):
        for policy in POLICIES:
            heap, _ = filled((policy, 1), 2, 3, 4, 5)
            self.give_all(heap, 6, 3)
            self.assertEqual(heap.pieces(), ((3, 7),))

    def test_between_two_pieces(self):
        for policy in POLICIES:
            heap, _ = filled((policy, 1), 2, 3, 4, 5)
            self.give_all(heap, 1, 6)
            self.assertEqual(heap.pieces(), ((1, 2), (6, 4)))
            self.give_all(heap, 3)
            self.assertEqual(heap.pieces(), ((1, 9),))
            self.assertEqual(heap.blocks(), ((10, 5),))

    def test_pieces_that_do_not_touch(self):
        for policy in POLICIES:
            heap, _ = filled((policy, 1), 1, 1, 1, 1, 1, 1, 1)
            self.give_all(heap, 6, 2, 4)
            self.assertEqual(heap.pieces(), ((2, 1), (4, 1), (6, 1)))
            self.assertEqual(heap.blocks(), ((1, 1), (3, 1), (5, 1), (7, 1)))

    def test_at_the_top(self):
        for policy in AGAIN:
            heap, _ = filled((policy, 1), 2, 3, 4)
            self.give_all(heap, 6)
            self.assertEqual((heap.blocks(), heap.pieces(), heap.top()), (((1, 2), (3, 3)), (), 6))
            self.give_all(heap, 1)
            self.assertEqual((heap.pieces(), heap.top()), (((1, 2),), 6))
            self.give_all(heap, 3)
            self.assertEqual((heap.blocks(), heap.pieces(), heap.top()), ((), (), 1))

    def test_at_the_top_together_with_a_piece(self):
        for policy in AGAIN:
            heap, _ = filled((policy, 1), 2, 3, 4)
            self.give_all(heap, 3, 6)
            self.assertEqual((heap.blocks(), heap.pieces(), heap.top()), (((1, 2),), (), 3))

    def test_bump_keeps_its_top(self):
        heap, _ = filled(("bump", 1), 2, 3, 4)
        self.give_all(heap, 6)
        self.assertEqual((heap.blocks(), heap.pieces(), heap.top()), (((1, 2), (3, 3)), ((6, 4),), 10))
        self.give_all(heap, 1)
        self.assertEqual(heap.pieces(), ((1, 2), (6, 4)))
        self.give_all(heap, 3)
        self.assertEqual((heap.blocks(), heap.pieces(), heap.top()), ((), ((1, 9),), 10))
        self.assertEqual(heap.take(2), 10)
        self.assertEqual((heap.blocks(), heap.pieces(), heap.top()), (((10, 2),), ((1, 9),), 12))
        self.give_all(heap, 10)
        self.assertEqual((heap.blocks(), heap.pieces(), heap.top()), ((), ((1, 11),), 12))

    def test_every_order_of_giving_back(self):
        for policy in POLICIES:
            for order in ((0, 1, 2, 3), (3, 2, 1, 0), (1, 3, 0, 2), (2, 0, 3, 1), (1, 0, 3, 2), (0, 3, 1, 2)):
                heap, found = filled((policy, 2), 1, 4, 0, 3)
                self.give_all(heap, *[found[at] for at in order])
                self.assertEqual(heap.blocks(), ())
                self.assertEqual((heap.pieces(), heap.top()), (((1, 12),), 13) if policy == "bump" else ((), 1))


def with_pieces(policy, *sizes, unit=1):
    """A heap with pieces of these sizes, blocks of one unit between them, and the addresses of the pieces."""
    heap = Heap((policy, unit))
    found = []
    for size in sizes:
        found.append(heap.take(size))
        heap.take(unit)
    for address in found:
        heap.give(address)
    return heap, found


class PolicyTest(unittest.TestCase):

    def test_first(self):
        heap, (one, two, three, four) = with_pieces("first", 2, 5, 3, 9)
        self.assertEqual(heap.take(3), two)
        self.assertEqual(heap.take(2), one)
        self.assertEqual(heap.take(2), two + 3)
        self.assertEqual(heap.take(4), four)
        self.assertEqual(heap.take(1), three)
        self.assertEqual(heap.pieces(), ((three + 1, 2), (four + 4, 5)))

    def test_best(self):
        heap, (one, two, three, four) = with_pieces("best", 9, 5, 3, 4)
        self.assertEqual(heap.take(4), four)
        self.assertEqual(heap.take(4), two)
        self.assertEqual(heap.take(2), three)
        self.assertEqual(heap.take(1), two + 4)
        self.assertEqual(heap.take(1), three + 2)
        self.assertEqual(heap.take(1), one)
        self.assertEqual(heap.pieces(), ((one + 1, 8),))

    def test_best_of_several_smallest(self):
        heap, (_, two, _, four, five) = with_pieces("best", 7, 4, 6, 4, 4)
        self.assertEqual(heap.take(3), two)
        self.assertEqual(heap.take(3), four)
        self.assertEqual(heap.take(4), five)

    def test_next(self):
        heap, (one, two, three, four) = with_pieces("next", 4, 2, 4, 4)
        last = heap.take(20)
        self.assertEqual(last, four + 5)
        # There is nothing behind the last block, so the first one fits.
        self.assertEqual(heap.take(2), one)
        # Behind it there is what is left of the same piece.
        self.assertEqual(heap.take(1), one + 2)
        self.assertEqual(heap.take(3), three)
        self.assertEqual(heap.take(2), four)
        self.assertEqual(heap.take(2), four + 2)
        self.assertEqual(heap.take(1), one + 3)
        self.assertEqual(heap.take(1), two)
        self.assertEqual(heap.pieces(), ((two + 1, 1), (three + 3, 1)))

    def test_next_begins_at_1(self):
        heap = Heap(("next", 1))
        self.assertEqual([heap.take(1), heap.take(1), heap.take(1)], [1, 2, 3])
        heap.give(1)
        self.assertEqual(heap.take(1), 1)

    def test_next_at_just_the_end_of_the_last_block(self):
        heap, found = filled(("next", 1), 2, 2, 2, 2, 2)
        heap.give(found[0])
        self.assertEqual(heap.take(2), 1)
        heap.give(found[1])
        heap.give(found[3])
        self.assertEqual(heap.take(1), 3)

    def test_next_behind_a_block_that_came_back(self):
        heap, found = filled(("next", 1), 2, 2, 2, 2, 2, 2)
        heap.give(found[2])
        self.assertEqual(heap.take(2), 5)
        heap.give(5)
        heap.give(found[0])
        heap.give(found[4])
        # The piece at 5 begins ahead of the end of the block that was given out last.
        self.assertEqual(heap.pieces(), ((1, 2), (5, 2), (9, 2)))
        self.assertEqual(heap.take(1), 9)
        self.assertEqual(heap.take(2), 1)

    def test_next_behind_a_block_that_came_back_at_the_top(self):
        heap, found = filled(("next", 1), 2, 2, 2, 2)
        heap.give(found[3])
        heap.give(found[0])
        self.assertEqual((heap.pieces(), heap.top()), (((1, 2),), 7))
        self.assertEqual(heap.take(1), 1)

    def test_next_behind_a_block_that_was_given_out_at_the_top(self):
        heap, found = filled(("next", 1), 3, 1, 3, 1)
        heap.give(found[0])
        heap.give(found[2])
        self.assertEqual(heap.take(5), 9)
        self.assertEqual(heap.take(3), 1)
        self.assertEqual(heap.take(3), 5)

    def test_no_piece_is_large_enough(self):
        for policy in AGAIN:
            heap, _ = with_pieces(policy, 2, 3)
            top = heap.top()
            self.assertEqual(heap.take(4), top)
            self.assertEqual(heap.top(), top + 4)
            self.assertEqual(len(heap.pieces()), 2)

    def test_a_piece_of_just_the_size(self):
        for policy in AGAIN:
            heap, (one,) = with_pieces(policy, 3)
            self.assertEqual(heap.take(3), one)
            self.assertEqual(heap.pieces(), ())

    def test_what_is_left_stays_a_piece(self):
        for policy in AGAIN:
            heap, (one,) = with_pieces(policy, 8, unit=2)
            self.assertEqual(heap.take(3), one)
            self.assertEqual(heap.pieces(), ((one + 4, 4),))
            self.assertEqual(heap.size(one), 4)

    def test_0_words_from_a_piece(self):
        for policy in AGAIN:
            heap, (one,) = with_pieces(policy, 4, unit=2)
            self.assertEqual(heap.take(0), one)
            self.assertEqual(heap.pieces(), ((one + 2, 2),))

    def test_bump_gives_nothing_out_again(self):
        heap, _ = with_pieces("bump", 8, 8)
        top = heap.top()
        self.assertEqual([heap.take(1), heap.take(8), heap.take(0)], [top, top + 1, top + 9])
        self.assertEqual(heap.top(), top + 10)
        self.assertEqual(len(heap.pieces()), 2)

    def test_the_policies_differ(self):
        for policy, wanted in (
            ("first", (1, 6, 12)), ("best", (12, 1, 6)), ("next", (6, 12, 1)), ("bump", (19, 22, 25)),
        ):
            heap, _ = with_pieces(policy, 4, 5, 3)
            heap.give(heap.take(3))
            self.assertEqual((heap.take(3), heap.take(3), heap.take(3)), wanted)


class SlowHeap:
    """The heap word by word, as 6.1 to 6.4 tell it."""

    def __init__(self, allocator):
        self.policy, self.unit = allocator
        self.blocks = {}
        self.top = 1
        self.last = 1

    def pieces(self):
        used = {at for address, size in self.blocks.items() for at in range(address, address + size)}
        free = [at for at in range(1, self.top) if at not in used]
        found = []
        for at in free:
            if found and found[-1][0] + found[-1][1] == at:
                found[-1] = (found[-1][0], found[-1][1] + 1)
            else:
                found.append((at, 1))
        return tuple(found)

    def take(self, many):
        size = self.unit
        while size < many:
            size += self.unit
        fitting = [piece for piece in self.pieces() if piece[1] >= size]
        if self.policy == "bump":
            fitting = []
        if self.policy == "best":
            fitting.sort(key=lambda piece: (piece[1], piece[0]))
        if self.policy == "next":
            fitting.sort(key=lambda piece: (piece[0] < self.last, piece[0]))
        address = fitting[0][0] if fitting else self.top
        self.top = max(self.top, address + size)
        self.blocks[address] = size
        self.last = address + size
        return address

    def give(self, address):
        del self.blocks[address]
        if self.policy != "bump":
            self.top = max([at + size for at, size in self.blocks.items()], default=1)


class LongRunTest(unittest.TestCase):

    def test_against_the_heap_word_by_word(self):
        for policy in POLICIES:
            for unit in UNITS:
                heap, slow = Heap((policy, unit)), SlowHeap((policy, unit))
                number = 7
                for _ in range(120):
                    number = number * 1103515245 % 2147483648 + 12345
                    if number // 64 % 5 < 3 and len(slow.blocks) < 25:
                        many = number // 1024 % 12
                        self.assertEqual(heap.take(many), slow.take(many))
                    elif slow.blocks:
                        address = sorted(slow.blocks)[number // 1024 % len(slow.blocks)]
                        slow.give(address)
                        self.assertIs(heap.give(address), True)
                    self.assertEqual(heap.blocks(), tuple(sorted(slow.blocks.items())))
                    self.assertEqual(heap.pieces(), slow.pieces())
                    self.assertEqual(heap.top(), slow.top)

    def test_everything_given_back(self):
        for policy in AGAIN:
            heap = Heap((policy, 4))
            for round_ in range(5):
                found = [heap.take(size) for size in range(20)]
                for address in sorted(found, key=lambda at: at * 7919 % 101 + round_):
                    heap.give(address)
                self.assertEqual((heap.blocks(), heap.pieces(), heap.top()), ((), (), 1))

    def test_two_heaps_beside_each_other(self):
        one, other = Heap(("first", 1)), Heap(("next", 8))
        self.assertEqual((one.take(3), other.take(3), one.take(3), other.take(9)), (1, 1, 4, 9))
        self.assertIs(one.give(1), True)
        self.assertEqual((one.blocks(), other.blocks()), (((4, 3),), ((1, 8), (9, 16))))
        self.assertEqual((one.pieces(), other.pieces()), (((1, 3),), ()))
        self.assertEqual((one.top(), other.top()), (7, 25))

    def test_what_was_returned_stays(self):
        heap, _ = filled(("first", 1), 2, 2, 2)
        heap.give(3)
        blocks, pieces = heap.blocks(), heap.pieces()
        heap.take(1)
        heap.give(1)
        self.assertEqual((blocks, pieces), (((1, 2), (5, 2)), ((3, 2),)))


if __name__ == "__main__":
    unittest.main()
