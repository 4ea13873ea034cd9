"""Every corner that the document names, by each call that reaches it."""

import unittest

from tests.helper import ABOVE, ALL, BELOW, DET, IDLES, LOOPS, NONE, SETTLES, STATE
from tests.helper import action, begin, ends, feeds, idle, if_pushed, look, loop, path, paths, push, row, through, told
from tests.helper import told_of, turn, weakened, with_actions, without


class Corners(unittest.TestCase):
    def test_one_quantity(self):
        calls = [begin(1), DET, ALL, action(0, 0, BELOW), push(0, ABOVE), DET, ALL, row(0), without(0, 0), turn(0), ALL]
        self.assertEqual(told(*calls), [[0], [2], [-33], [1], [1], [1], [1, 4], [1, 4], [2], [0], [1, 1]])

    def test_one_quantity_of_each_sign(self):
        calls = [
            idle(0, 0), IDLES, paths(0, 0), path(0, 0, 0), path(0, 0, 1), LOOPS, loop(0), loop(1), through(0), SETTLES,
            feeds(0), look(0), STATE,
        ]
        for own, settles, loops in ((BELOW, [0], [1, 0, 1]), (ABOVE, [1], [1, 1, 0])):
            expected = [
                [0], [0], [1, 1, 0], [2, 0], [-33], loops, [own, 0], [-33], loops, settles, [1, 0], [1, own], [1, 1, 1],
            ]
            self.assertEqual(told_of([[own]], None, *calls), expected)
        expected = [
            [0], [0], [1, 1, 0], [2, 0], [-33], [0, 0, 0], [-33], [-33], [0, 0, 0], [2], [0], [1, 1], [1, 1, 0],
        ]
        self.assertEqual(told_of([[NONE]], None, *calls), expected)

    def test_one_that_nothing_acts_on_is_looked_at(self):
        table = [[BELOW, ABOVE], [NONE, NONE]]
        calls = [feeds(1), look(1), paths(0, 1), paths(1, 0), through(1), LOOPS, SETTLES, idle(1, 0), IDLES, STATE]
        expected = [
            [0], [1, 1, 1], [0, 0, 0], [1, 1, 0], [0, 0, 0], [1, 0, 1], [5], [1], [2, 0, 0, 1, 0], [2, 1, 1, 2],
        ]
        self.assertEqual(told_of(table, None, *calls), expected)

    def test_one_that_nothing_acts_on(self):
        # Its row is none throughout, so each term is, and nothing can be told.
        table = [[BELOW, ABOVE], [NONE, NONE]]
        self.assertEqual(told_of(table, None, DET, ends(0), row(1)), [[2], [-33], [-33]])

    def test_one_that_acts_on_nothing(self):
        table = [[BELOW, NONE], [ABOVE, NONE]]
        self.assertEqual(told_of(table, None, DET, ends(0), row(1)), [[2], [-33], [-33]])

    def test_push_that_nothing_answers(self):
        # What preys on 0 takes up all of a push of it: 0 itself doesn't change.
        table = [[BELOW, BELOW], [ABOVE, NONE]]
        self.assertEqual(told_of(table, [ABOVE, NONE], ends(0), ends(1)), [[2], [4]])
        # Nothing leads from 1 to 0.
        apart = [[BELOW, NONE], [ABOVE, BELOW]]
        self.assertEqual(told_of(apart, None, row(1), if_pushed(1, BELOW, 0)), [[2, 2, 4], [2]])
        # Nothing holds a pushed quantity: there's no balance.
        self.assertEqual(told(begin(1), push(0, ABOVE), ends(0)), [[0], [1], [-33]])

    def test_push_that_nothing_answers_and_no_path(self):
        apart = [[BELOW, NONE], [ABOVE, BELOW]]
        calls = [paths(1, 0), path(1, 0, 0), row(1), paths(0, 1), row(0)]
        self.assertEqual(told_of(apart, [NONE, ABOVE], *calls), [[0, 0, 0], [-33], [2, 2, 4], [1, 1, 0], [2, 4, 4]])
        self.assertEqual(told(begin(1), push(0, ABOVE), look(0), STATE)[2:], [[2, 1], [1, 2, 0]])

    def test_two_paths_that_say_otherwise_one_by_one(self):
        table = [[BELOW, NONE, NONE], [ABOVE, BELOW, NONE], [ABOVE, BELOW, BELOW]]
        calls = [paths(0, 2), path(0, 2, 0), path(0, 2, 1), path(0, 2, 2), IDLES]
        self.assertEqual(told_of(table, None, *calls), [[2, 1, 1], [0, 0, 1, 2], [2, 0, 2], [-33], [0]])

    def test_two_paths_that_say_otherwise(self):
        table = [[BELOW, NONE, NONE], [ABOVE, BELOW, NONE], [ABOVE, BELOW, BELOW]]
        self.assertEqual(told_of(table, None, DET, row(0), row(1), row(2)), [[1], [3, 4, 4, 7], [3, 2, 4, 1], [3, 2, 2, 4]])
        self.assertEqual(told_of(table, None, *[if_pushed(0, s, 2) for s in range(3)]), [[7], [2], [7]])

    def test_two_paths_that_say_the_same(self):
        table = [[BELOW, NONE, NONE], [ABOVE, BELOW, NONE], [ABOVE, ABOVE, BELOW]]
        self.assertEqual(told_of(table, None, row(0)), [[3, 4, 4, 4]])

    def test_loop_of_two(self):
        above = [[BELOW, ABOVE], [ABOVE, BELOW]]
        self.assertEqual(told_of(above, None, DET, ALL, without(0, 1)), [[7], [-33], [4]])
        below = [[BELOW, ABOVE], [BELOW, BELOW]]
        self.assertEqual(told_of(below, None, DET, row(0), row(1)), [[4], [2, 4, 1], [2, 4, 4]])
        bare = [[NONE, ABOVE], [ABOVE, NONE]]
        self.assertEqual(told_of(bare, None, DET, row(0), row(1)), [[1], [2, 2, 1], [2, 1, 2]])

    def test_loop_of_two_as_a_loop(self):
        for back, sign, settles in ((ABOVE, 2, 3), (BELOW, 0, 0)):
            table = with_actions(weakened(2), (0, 1, ABOVE), (1, 0, back))
            how_many = [3, 1, 2] if sign == ABOVE else [3, 0, 3]
            calls = [LOOPS, loop(0), loop(1), loop(2), loop(3), SETTLES, paths(0, 1), paths(1, 0)]
            back_again = [1, 1, 0] if back == ABOVE else [1, 0, 1]
            expected = [how_many, [0, 0], [sign, 0, 1], [0, 1], [-33], [settles], [1, 1, 0], back_again]
            self.assertEqual(told_of(table, None, *calls), expected)
        bare = [[NONE, ABOVE], [ABOVE, NONE]]
        self.assertEqual(told_of(bare, None, LOOPS, loop(0), SETTLES, through(0)), [[1, 1, 0], [2, 0, 1], [2], [1, 1, 0]])

    def test_one_that_acts_on_itself_above_as_a_loop(self):
        table = with_actions(weakened(2), (1, 1, ABOVE))
        calls = [SETTLES, LOOPS, loop(0), loop(1), through(1), feeds(1), look(1), paths(1, 1)]
        self.assertEqual(told_of(table, None, *calls), [[1], [2, 1, 1], [0, 0], [2, 1], [1, 1, 0], [1, 1], [1, 1, 2], [1, 1, 0]])

    def test_one_that_acts_on_itself_above(self):
        self.assertEqual(told_of([[ABOVE]], [ABOVE], DET, ends(0)), [[4], [1]])
        table = [[ABOVE, NONE], [ABOVE, BELOW]]
        self.assertEqual(told_of(table, None, DET, row(0), row(1)), [[1], [2, 1, 1], [2, 2, 4]])
        # It strengthens itself, the loop holds it back: which is more isn't known.
        self.assertEqual(told_of([[ABOVE, BELOW], [ABOVE, BELOW]], None, DET, row(0)), [[7], [-33]])

    def test_action_that_doesn_t_matter(self):
        table = with_actions(weakened(3), (0, 1, ABOVE), (1, 2, ABOVE), (0, 2, ABOVE))
        without_it = with_actions(table, (0, 2, NONE))
        calls = [DET, row(0), row(1), row(2)]
        self.assertEqual(told_of(table, None, *calls), told_of(without_it, None, *calls))
        self.assertEqual(told_of(table, None, idle(0, 2), IDLES, without(0, 2)), [[1], [1, 0, 2], [1]])
        # Once it's gone, the other path is all there is.
        self.assertEqual(told_of(table, None, action(0, 2, NONE), idle(0, 2), idle(0, 1), IDLES), [[2], [0], [0], [0]])

    def test_pushes_that_go_against_each_other(self):
        table = [[BELOW, NONE, NONE], [NONE, BELOW, NONE], [ABOVE, ABOVE, BELOW]]
        self.assertEqual(told_of(table, [ABOVE, BELOW, NONE], ALL), [[3, 4, 1, 7]])
        self.assertEqual(told_of(table, [ABOVE, ABOVE, NONE], ALL), [[3, 4, 4, 4]])
        self.assertEqual(told_of(table, [ABOVE, NONE, BELOW], ALL), [[3, 4, 2, 7]])

    def test_quantity_turned_twice(self):
        table = [[BELOW, ABOVE], [BELOW, BELOW]]
        calls = [
            DET, ALL, row(0), row(1), IDLES, paths(0, 1), path(0, 1, 0), LOOPS, loop(1), SETTLES, look(0), look(1), STATE,
        ]
        for i in range(2):
            once = told_of(table, [ABOVE, BELOW], *calls)
            self.assertEqual(told_of(table, [ABOVE, BELOW], turn(i), turn(i), *calls)[2:], once)


if __name__ == "__main__":
    unittest.main()
