"""Point 4.6: regions, and where joins and returns may stand."""

import unittest

from mir_helpers import JOIN, RETURN, T, W, copied, ways, whole
from oneowner.mir import is_mir, regions_of

NONE = -1


def go(block):
    return ("go", block)


def branch(one, other):
    return ("branch", copied(T), one, other)


def switch(one, other):
    return ("switch", whole(W), (one, other))


def par(one, other, behind):
    return ("par", one, other, behind)


class RegionTest(unittest.TestCase):

    def right(self, found, *regions):
        program = ways(*found)
        self.assertIs(is_mir(program), True)
        self.assertEqual(regions_of(program[1][-1]), list(regions))

    def wrong(self, *found):
        with self.subTest(found):
            self.assertIs(is_mir(ways(*found)), False)

    def test_the_functions_own_region(self):
        self.right([RETURN], 0)
        self.right([go(0)], 0)
        self.right([go(1), RETURN], 0, 0)
        self.right([go(2), RETURN, go(1)], 0, 0, 0)
        self.right([branch(1, 2), go(0), RETURN], 0, 0, 0)
        self.right([branch(1, 1), switch(0, 2), branch(2, 3), RETURN], 0, 0, 0, 0)

    def test_the_sides_of_a_par(self):
        self.right([par(1, 2, 3), JOIN, JOIN, RETURN], 0, 1, 2, 0)
        self.right([par(3, 1, 2), JOIN, RETURN, JOIN], 0, 1, 0, 3)
        self.right([go(1), par(2, 3, 1), JOIN, JOIN], 0, 0, 2, 3)
        self.right([par(1, 2, 0), JOIN, JOIN], 0, 1, 2)

    def test_ways_within_a_side(self):
        self.right([par(1, 2, 3), branch(4, 5), go(6), RETURN, go(1), JOIN, switch(2, 7), JOIN],
                   0, 1, 2, 0, 1, 1, 2, 2)
        self.right([par(1, 2, 3), go(1), go(2), RETURN], 0, 1, 2, 0)
        self.right([par(1, 2, 3), branch(4, 5), JOIN, RETURN, JOIN, JOIN], 0, 1, 2, 0, 1, 1)

    def test_pars_within_pars(self):
        self.right([par(1, 2, 3), par(4, 5, 6), JOIN, RETURN, JOIN, JOIN, JOIN], 0, 1, 2, 0, 4, 5, 1)
        self.right([par(1, 2, 3), JOIN, par(4, 5, 6), RETURN, par(7, 8, 9), JOIN, JOIN, JOIN, JOIN, JOIN],
                   0, 1, 2, 0, 4, 5, 2, 7, 8, 4)
        # What comes behind an inner par may be the block that begins the side in which it stands.
        self.right([par(1, 2, 3), par(4, 5, 1), JOIN, RETURN, JOIN, JOIN], 0, 1, 2, 0, 4, 5)
        self.right([par(1, 2, 3), JOIN, JOIN, par(4, 5, 6), JOIN, JOIN, RETURN], 0, 1, 2, 0, 4, 5, 0)

    def test_blocks_that_cannot_be_come_to(self):
        self.right([RETURN, RETURN], 0, NONE)
        self.right([RETURN, JOIN], 0, NONE)
        self.right([RETURN, go(2), go(1)], 0, NONE, NONE)
        self.right([RETURN, par(1, 1, 1)], 0, NONE)
        self.right([RETURN, par(2, 2, 0), branch(1, 3), RETURN], 0, NONE, NONE, NONE)
        self.right([go(2), JOIN, RETURN, RETURN, switch(3, 1)], 0, NONE, 0, NONE, NONE)
        self.right([par(1, 2, 4), JOIN, JOIN, JOIN, RETURN, RETURN], 0, 1, 2, NONE, 0, NONE)

    def test_what_is_behind_a_par_whose_side_has_no_join_can_be_come_to(self):
        self.right([par(1, 2, 3), go(1), JOIN, RETURN], 0, 1, 2, 0)
        self.wrong(par(1, 2, 3), go(1), JOIN, JOIN)
        self.wrong(par(1, 2, 3), go(1), RETURN, RETURN)

    def test_a_block_that_two_regions_lead_to(self):
        self.wrong(par(1, 2, 3), go(3), JOIN, RETURN)
        self.wrong(par(1, 2, 3), JOIN, go(3), RETURN)
        self.wrong(par(1, 2, 3), go(0), JOIN, RETURN)
        self.wrong(par(1, 2, 3), JOIN, branch(2, 0), RETURN)
        self.wrong(par(1, 2, 3), go(4), go(4), RETURN, JOIN)
        self.wrong(par(1, 2, 3), go(4), branch(4, 5), RETURN, JOIN, JOIN)
        self.wrong(par(1, 2, 3), par(4, 5, 6), JOIN, RETURN, go(6), JOIN, JOIN)
        self.wrong(par(1, 2, 3), par(4, 5, 6), JOIN, RETURN, go(5), JOIN, JOIN)
        self.wrong(par(1, 2, 3), par(4, 5, 3), JOIN, RETURN, JOIN, JOIN)
        self.wrong(par(1, 2, 3), switch(4, 3), JOIN, RETURN, JOIN)

    def test_what_leads_to_the_beginning_of_a_side_from_outside(self):
        self.wrong(branch(1, 2), par(2, 3, 4), JOIN, JOIN, RETURN)
        self.wrong(branch(2, 1), par(2, 3, 4), JOIN, JOIN, RETURN)
        self.wrong(par(1, 2, 3), JOIN, JOIN, go(1))
        self.wrong(par(1, 2, 3), JOIN, JOIN, branch(4, 2), RETURN)
        self.wrong(par(1, 2, 3), go(2), JOIN, RETURN)
        self.wrong(par(1, 2, 3), JOIN, go(1), RETURN)
        self.wrong(par(1, 2, 1), JOIN, JOIN, RETURN)
        self.wrong(par(1, 2, 2), JOIN, JOIN, RETURN)
        self.wrong(par(1, 2, 3), par(4, 5, 6), JOIN, RETURN, go(1), JOIN, JOIN)
        self.wrong(par(1, 2, 3), par(4, 5, 6), JOIN, RETURN, JOIN, JOIN, go(4))

    def test_a_side_is_begun_by_one_par_alone(self):
        self.wrong(par(1, 1, 2), JOIN, RETURN)
        self.wrong(branch(1, 2), par(3, 4, 5), par(3, 6, 5), JOIN, JOIN, RETURN, JOIN)
        self.wrong(branch(1, 2), par(3, 4, 5), par(6, 4, 5), JOIN, JOIN, RETURN, JOIN)
        self.wrong(branch(1, 2), par(3, 4, 5), par(4, 6, 5), JOIN, JOIN, RETURN, JOIN)
        self.wrong(par(1, 2, 3), JOIN, JOIN, par(1, 2, 4), RETURN)
        self.wrong(par(1, 2, 3), JOIN, JOIN, par(4, 1, 5), JOIN, RETURN)
        self.wrong(par(1, 2, 3), par(1, 4, 5), JOIN, RETURN, JOIN, JOIN)
        self.wrong(par(1, 2, 3), par(4, 2, 5), JOIN, RETURN, JOIN, JOIN)
        self.wrong(par(1, 2, 3), par(4, 1, 5), JOIN, RETURN, JOIN, JOIN)

    def test_block_0_begins_no_side(self):
        self.wrong(par(0, 1, 2), JOIN, RETURN)
        self.wrong(par(1, 0, 2), JOIN, RETURN)
        self.wrong(par(0, 1, 0), JOIN)
        self.wrong(par(1, 2, 3), par(0, 4, 5), JOIN, RETURN, JOIN, JOIN)

    def test_joins_in_the_functions_own_region(self):
        self.wrong(JOIN)
        self.wrong(go(1), JOIN)
        self.wrong(branch(1, 2), RETURN, JOIN)
        self.wrong(par(1, 2, 3), JOIN, JOIN, JOIN)
        self.wrong(par(1, 2, 3), JOIN, JOIN, branch(4, 5), RETURN, JOIN)

    def test_returns_in_a_side(self):
        self.wrong(par(1, 2, 3), RETURN, JOIN, RETURN)
        self.wrong(par(1, 2, 3), JOIN, RETURN, RETURN)
        self.wrong(par(1, 2, 3), branch(4, 5), JOIN, RETURN, JOIN, RETURN)
        self.wrong(par(1, 2, 3), par(4, 5, 6), JOIN, RETURN, JOIN, JOIN, RETURN)
        self.wrong(par(1, 2, 3), par(4, 5, 6), JOIN, RETURN, JOIN, RETURN, JOIN)

    def test_what_regions_of_returns_is_a_list_of_its_own(self):
        function = ways(par(1, 2, 3), JOIN, JOIN, RETURN)[1][-1]
        regions = regions_of(function)
        self.assertIsInstance(regions, list)
        regions[0] = 7
        self.assertEqual(regions_of(function), [0, 1, 2, 0])


if __name__ == "__main__":
    unittest.main()
