"""Promise 2: idle and idles."""

import random
import unittest

from tests.helper import ABOVE, ALL, BELOW, DET, IDLES, NONE
from tests.helper import begin, dense, each_table, idle, random_table, reference_change, reference_det, reference_idle
from tests.helper import row, told, told_in_parts, told_of, weakened, with_actions, without

# Two paths from 0 to 2 that say the same: the straight one may as well not be.
TWO_WAYS = with_actions(weakened(3), (0, 1, ABOVE), (1, 2, ABOVE), (0, 2, ABOVE))
# A prey (0) that weakens itself and what preys on it (1): the determinant is above.
PREY = [[BELOW, BELOW], [ABOVE, NONE]]
# Each one acts on those behind it and on itself below, and on the one ahead of it above: all terms say the same.
STAIRS = [[BELOW if j <= i else ABOVE if j == i + 1 else NONE for j in range(5)] for i in range(5)]


def each_pair(n):
    return [(j, i) for j in range(n) for i in range(n)]


class Idle(unittest.TestCase):
    def idle(self, table, j, i):
        return told_of(table, None, idle(j, i))[0]

    def test_action_that_is_none(self):
        for n in range(1, 6):
            for j, i in each_pair(n):
                self.assertEqual(told(begin(n), idle(j, i)), [[0], [0]])
        # Though the determinant and all changes are just the same without it.
        self.assertEqual(told_of(weakened(2), None, DET, without(0, 1), idle(0, 1)), [[4], [4], [0]])

    def test_without_it_the_determinant_changes(self):
        for n in range(1, 6):
            for i in range(n):
                self.assertEqual(self.idle(weakened(n), i, i), [0])
        self.assertEqual(told_of(PREY, None, DET, without(0, 1), idle(0, 1), idle(1, 0)), [[4], [2], [0], [0]])
        # From all three to sure, and from all three to sure the other way.
        pulled = [[BELOW, ABOVE], [ABOVE, BELOW]]
        self.assertEqual(told_of(pulled, None, DET, without(0, 1), idle(0, 1)), [[7], [4], [0]])
        self.assertEqual(told_of(pulled, None, without(0, 0), idle(0, 0)), [[1], [0]])

    def test_without_it_the_determinant_is_the_same_but_a_change_is_otherwise(self):
        self.assertEqual(told_of(PREY, None, DET, without(0, 0), idle(0, 0)), [[4], [4], [0]])
        self.assertEqual(told_of(PREY, None, row(0), row(1)), [[2, 2, 4], [2, 1, 4]])
        bare = with_actions(PREY, (0, 0, NONE))
        self.assertEqual(told_of(bare, None, row(0), row(1)), [[2, 2, 4], [2, 1, 2]])
        chain = with_actions(weakened(3), (0, 1, ABOVE), (1, 2, ABOVE))
        calls = [DET, without(0, 1), idle(0, 1), without(1, 2), idle(1, 2)]
        self.assertEqual(told_of(chain, None, *calls), [[1], [1], [0], [1], [0]])

    def test_each_quantity_that_is_pushed_counts(self):
        # Only a push of j tells that j acts on i, whichever these are.
        for n in range(2, 6):
            for j, i in each_pair(n):
                if j != i:
                    self.assertEqual(self.idle(with_actions(weakened(n), (j, i, BELOW)), j, i), [0])

    def test_pushes_that_are_there_don_t_count(self):
        for pushes in ([NONE, NONE, NONE], [ABOVE, BELOW, ABOVE], [NONE, NONE, BELOW]):
            calls = [idle(0, 1), idle(1, 2), idle(0, 2), IDLES]
            self.assertEqual(told_of(TWO_WAYS, pushes, *calls), [[0], [0], [1], [1, 0, 2]])

    def test_one_that_doesn_t_matter(self):
        self.assertEqual(told_of(TWO_WAYS, None, DET, without(0, 2), row(0)), [[1], [1], [3, 4, 4, 4]])
        self.assertEqual(self.idle(TWO_WAYS, 0, 2), [1])
        # One that says otherwise than the other path matters.
        otherwise = with_actions(TWO_WAYS, (0, 2, BELOW))
        self.assertEqual(told_of(otherwise, None, row(0), idle(0, 2)), [[3, 4, 4, 7], [0]])

    def test_first_is_who_acts_second_is_who_is_acted_on(self):
        self.assertEqual(told_of(TWO_WAYS, None, idle(0, 2), idle(2, 0)), [[1], [0]])

    def test_determinant_none_alone(self):
        # It's none without any one of the actions too; changes aren't told there, so they aren't compared.
        table = [[ABOVE, ABOVE], [NONE, NONE]]
        calls = [DET, idle(0, 0), idle(1, 0), idle(0, 1), idle(1, 1), IDLES]
        self.assertEqual(told_of(table, None, *calls), [[2], [1], [1], [0], [0], [2, 0, 0, 1, 0]])
        without_it = with_actions(table, (0, 0, NONE))
        self.assertNotEqual(reference_change(table, [NONE, ABOVE], 1), reference_change(without_it, [NONE, ABOVE], 1))

    def test_determinant_all_three(self):
        table = [[ABOVE] * 3 for i in range(3)]
        calls = [DET] + [idle(j, i) for j, i in each_pair(3)]
        self.assertEqual(told_of(table, None, *calls), [[7]] + [[1]] * 9)
        # Without it the change of 1 by a push of 2 would be otherwise, were it told.
        pushes = [NONE, NONE, ABOVE]
        without_it = with_actions(table, (0, 0, NONE))
        self.assertEqual(reference_det(without_it), 7)
        self.assertNotEqual(reference_change(table, pushes, 1), reference_change(without_it, pushes, 1))

    def test_determinant_below(self):
        self.assertEqual(told_of(STAIRS, None, DET, idle(0, 2), idle(0, 1), idle(2, 2)), [[1], [1], [0], [0]])

    def test_changes_nothing(self):
        calls = [DET, ALL, idle(0, 2), IDLES, DET, ALL, idle(0, 2)]
        answered = told_of(TWO_WAYS, [ABOVE, NONE, BELOW], *calls)
        self.assertEqual(answered[4:7], answered[:3])


class Idles(unittest.TestCase):
    def idles(self, table):
        return told_of(table, None, IDLES)[0]

    def test_none(self):
        for n in range(1, 6):
            self.assertEqual(self.idles([[NONE] * n for i in range(n)]), [0])
            self.assertEqual(self.idles(weakened(n)), [0])
        self.assertEqual(self.idles(PREY), [0])

    def test_one(self):
        self.assertEqual(self.idles(TWO_WAYS), [1, 0, 2])
        four = with_actions(weakened(4), (3, 1, BELOW), (1, 0, BELOW), (3, 0, ABOVE))
        self.assertEqual(self.idles(four), [1, 3, 0])

    def test_several_in_their_order(self):
        self.assertEqual(self.idles(STAIRS), [8, 0, 2, 0, 3, 0, 4, 1, 2, 1, 3, 1, 4, 2, 3, 2, 4])
        turned_over = [[STAIRS[j][i] for j in range(5)] for i in range(5)]
        self.assertEqual(self.idles(turned_over), [8, 2, 0, 2, 1, 3, 0, 3, 1, 3, 2, 4, 0, 4, 1, 4, 2])

    def test_where_no_change_is_told(self):
        self.assertEqual(self.idles([[ABOVE, BELOW], [NONE, NONE]]), [2, 0, 0, 1, 0])
        self.assertEqual(self.idles([[ABOVE, NONE], [BELOW, NONE]]), [2, 0, 0, 0, 1])
        everything = [number for pair in each_pair(3) for number in pair]
        self.assertEqual(self.idles([[ABOVE] * 3 for i in range(3)]), [9] + everything)

    def test_5_quantities_that_all_act_on_all(self):
        expected = [pair for pair in each_pair(5) if reference_idle(dense(5), pair[0], pair[1])]
        self.assertGreater(len(expected), 1)
        self.assertEqual(self.idles(dense(5)), [len(expected)] + [number for pair in expected for number in pair])

    def check(self, table):
        pairs = each_pair(len(table))
        answered = told_in_parts(table, None, IDLES, *[idle(j, i) for j, i in pairs])
        one_by_one = [[reference_idle(table, j, i)] for j, i in pairs]
        self.assertEqual(answered[1:], one_by_one, table)
        found = [pair for pair, answer in zip(pairs, answered[1:]) if answer == [1]]
        self.assertEqual(answered[0], [len(found)] + [number for pair in found for number in pair], table)
        return (answered[0][0], reference_det(table))

    def test_same_as_idle_pair_by_pair_in_all_tables_of_one_and_two(self):
        for n in (1, 2):
            for table in each_table(n):
                self.check(table)

    def test_same_as_idle_pair_by_pair_in_drawn_tables(self):
        source = random.Random(23)
        seen = {}
        for number in range(150):
            idle_pairs, whole = self.check(random_table(source, 3 + number % 3))
            seen.setdefault(whole, []).append(idle_pairs)
        # Each kind of determinant came up, with idle actions and without.
        for whole in (1, 2, 4, 7):
            self.assertGreater(max(seen[whole]), 1, whole)
        self.assertIn(0, seen[1] + seen[4])


if __name__ == "__main__":
    unittest.main()
