"""The corners that the document names and these calls reach."""

import unittest

from tests.helper import ABOVE, ALL, BELOW, DET, NONE
from tests.helper import action, begin, ends, if_pushed, push, row, told, told_of, turn, without


class Corners(unittest.TestCase):
    def test_one_quantity(self):
        calls = [begin(1), DET, ALL, action(0, 0, BELOW), push(0, ABOVE), DET, ALL, row(0), without(0, 0), turn(0), ALL]
        self.assertEqual(told(*calls), [[0], [2], [-33], [1], [1], [1], [1, 4], [1, 4], [2], [0], [1, 1]])

    def test_one_that_nothing_acts_on(self):
        # Its row is none throughout, so each term is, and nothing can be told.
        table = [[BELOW, ABOVE], [NONE, NONE]]
        self.assertEqual(told_of(table, None, DET, ends(0), row(1)), [[2], [-33], [-33]])

    def test_one_that_acts_on_nothing(self):
        table = [[BELOW, NONE], [ABOVE, NONE]]
        self.assertEqual(told_of(table, None, DET, ends(0), row(1)), [[2], [-33], [-33]])

    def test_push_that_nothing_answers(self):
        # What preys on 0 takes up all of a push of it: 0 itself doesn't change.
        table = [[BELOW, BELOW], [ABOVE, NONE]]
        self.assertEqual(told_of(table, [ABOVE, NONE], ends(0), ends(1)), [[2], [4]])
        # Nothing leads from 1 to 0.
        apart = [[BELOW, NONE], [ABOVE, BELOW]]
        self.assertEqual(told_of(apart, None, row(1), if_pushed(1, BELOW, 0)), [[2, 2, 4], [2]])
        # Nothing holds a pushed quantity: there's no balance.
        self.assertEqual(told(begin(1), push(0, ABOVE), ends(0)), [[0], [1], [-33]])

    def test_two_paths_that_say_otherwise(self):
        table = [[BELOW, NONE, NONE], [ABOVE, BELOW, NONE], [ABOVE, BELOW, BELOW]]
        self.assertEqual(told_of(table, None, DET, row(0), row(1), row(2)), [[1], [3, 4, 4, 7], [3, 2, 4, 1], [3, 2, 2, 4]])
        self.assertEqual(told_of(table, None, *[if_pushed(0, s, 2) for s in range(3)]), [[7], [2], [7]])

    def test_two_paths_that_say_the_same(self):
        table = [[BELOW, NONE, NONE], [ABOVE, BELOW, NONE], [ABOVE, ABOVE, BELOW]]
        self.assertEqual(told_of(table, None, row(0)), [[3, 4, 4, 4]])

    def test_loop_of_two(self):
        above = [[BELOW, ABOVE], [ABOVE, BELOW]]
        self.assertEqual(told_of(above, None, DET, ALL, without(0, 1)), [[7], [-33], [4]])
        below = [[BELOW, ABOVE], [BELOW, BELOW]]
        self.assertEqual(told_of(below, None, DET, row(0), row(1)), [[4], [2, 4, 1], [2, 4, 4]])
        bare = [[NONE, ABOVE], [ABOVE, NONE]]
        self.assertEqual(told_of(bare, None, DET, row(0), row(1)), [[1], [2, 2, 1], [2, 1, 2]])

    def test_one_that_acts_on_itself_above(self):
        self.assertEqual(told_of([[ABOVE]], [ABOVE], DET, ends(0)), [[4], [1]])
        table = [[ABOVE, NONE], [ABOVE, BELOW]]
        self.assertEqual(told_of(table, None, DET, row(0), row(1)), [[1], [2, 1, 1], [2, 2, 4]])
        # It strengthens itself, the loop holds it back: which is more isn't known.
        self.assertEqual(told_of([[ABOVE, BELOW], [ABOVE, BELOW]], None, DET, row(0)), [[7], [-33]])

    def test_pushes_that_go_against_each_other(self):
        table = [[BELOW, NONE, NONE], [NONE, BELOW, NONE], [ABOVE, ABOVE, BELOW]]
        self.assertEqual(told_of(table, [ABOVE, BELOW, NONE], ALL), [[3, 4, 1, 7]])
        self.assertEqual(told_of(table, [ABOVE, ABOVE, NONE], ALL), [[3, 4, 4, 4]])
        self.assertEqual(told_of(table, [ABOVE, NONE, BELOW], ALL), [[3, 4, 2, 7]])

    def test_quantity_turned_twice(self):
        table = [[BELOW, ABOVE], [BELOW, BELOW]]
        calls = [DET, ALL, row(0), row(1)]
        for i in range(2):
            once = told_of(table, [ABOVE, BELOW], *calls)
            self.assertEqual(told_of(table, [ABOVE, BELOW], turn(i), turn(i), *calls)[2:], once)


if __name__ == "__main__":
    unittest.main()
