"""Points 8.2 and 8.3: which thread is picked, and which accesses are unordered."""

import unittest

from oneowner.threads import picked, unordered


class PickedTest(unittest.TestCase):

    def test_the_number_modulo_how_many(self):
        schedule = (0, 1, 2, 3, 4, 10 ** 30, 7)
        for at, many, wanted in (
            (0, 1, 0), (1, 1, 0), (1, 2, 1), (2, 2, 0), (3, 2, 1), (2, 3, 2), (3, 3, 0), (4, 3, 1), (5, 3, 1),
            (5, 7, 1),
            (6, 4, 3), (6, 8, 7), (6, 7, 0), (6, 1000, 7),
        ):
            self.assertEqual(picked(schedule, at, many), wanted)

    def test_behind_the_end(self):
        for schedule in ((), (3,), (1, 1, 1)):
            for at in range(len(schedule), len(schedule) + 3):
                for many in (1, 2, 5):
                    self.assertEqual(picked(schedule, at, many), 0)
        self.assertEqual(picked((3,), 0, 2), 1)
        self.assertEqual(picked((1, 1, 1), 2, 5), 1)


class UnorderedTest(unittest.TestCase):

    def check(self, one, other, wanted):
        self.assertIs(unordered(one, other), wanted)
        self.assertIs(unordered(other, one), wanted)

    def test_equal_places(self):
        for place in ((), ((1, 0),), ((1, 1),), ((1, 0), (2, 1)), ((3, 1), (5, 1), (8, 0))):
            self.check(place, place, False)

    def test_one_a_beginning_of_the_other(self):
        place = ((3, 1), (5, 1), (8, 0))
        for many in range(3):
            self.check(place[:many], place, False)

    def test_the_other_side_of_the_same_par(self):
        self.check(((1, 0),), ((1, 1),), True)
        self.check(((1, 0), (2, 0)), ((1, 1),), True)
        self.check(((1, 0), (2, 0)), ((1, 1), (3, 0)), True)
        self.check(((1, 0), (2, 0)), ((1, 1), (2, 0)), True)
        self.check(((1, 0), (2, 0)), ((1, 0), (2, 1)), True)
        self.check(((1, 0), (2, 0), (9, 0)), ((1, 0), (2, 1)), True)

    def test_another_par(self):
        self.check(((1, 0),), ((2, 0),), False)
        self.check(((1, 0),), ((2, 1),), False)
        self.check(((1, 0), (2, 0)), ((1, 0), (3, 1)), False)
        self.check(((1, 0), (2, 0)), ((3, 0), (2, 1)), False)
        self.check(((1, 0), (2, 0), (4, 1)), ((1, 0), (3, 0), (4, 0)), False)

    def test_the_first_difference_counts(self):
        self.check(((1, 0), (2, 0)), ((1, 1), (3, 0)), True)
        self.check(((1, 0), (2, 0), (5, 0)), ((1, 0), (3, 0), (5, 1)), False)
        self.check(((1, 0), (2, 0), (5, 0)), ((1, 0), (2, 1), (6, 0)), True)


if __name__ == "__main__":
    unittest.main()
