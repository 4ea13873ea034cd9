"""Promise 3: paths and path."""

import random
import unittest

from tests.helper import ABOVE, BELOW, GREAT, NONE
from tests.helper import begin, counts, dense, each_table, nothing, path, paths, random_table, reference_paths
from tests.helper import told, told_in_parts, told_of, turn, weakened, with_actions


def line(n):
    """Each quantity acts above on the next one, and nothing else acts."""
    return with_actions(nothing(n), *[(j, j + 1, ABOVE) for j in range(n - 1)])


class Paths(unittest.TestCase):
    def test_u_is_v(self):
        for n in range(1, 6):
            for table in (nothing(n), weakened(n), dense(n)):
                for u in range(n):
                    self.assertEqual(told_of(table, None, paths(u, u)), [[1, 1, 0]])

    def test_no_path(self):
        for n in range(2, 6):
            for u in range(n):
                for v in range(n):
                    if u != v:
                        self.assertEqual(told(begin(n), paths(u, v)), [[0], [0, 0, 0]])
                        self.assertEqual(told_of(weakened(n), None, paths(u, v)), [[0, 0, 0]])
        # 0 acts on 1 and 2 acts on 1: nothing leads on.
        table = with_actions(nothing(3), (0, 1, ABOVE), (2, 1, ABOVE))
        self.assertEqual(told_of(table, None, paths(0, 2), paths(2, 0), paths(1, 0)), [[0, 0, 0]] * 3)

    def test_one_path(self):
        for n in range(2, 6):
            self.assertEqual(told_of(line(n), None, paths(0, n - 1), paths(n - 1, 0)), [[1, 1, 0], [0, 0, 0]])
            turned = with_actions(line(n), (0, 1, BELOW))
            self.assertEqual(told_of(turned, None, paths(0, n - 1)), [[1, 0, 1]])

    def test_several_above_and_below(self):
        two_ways = with_actions(nothing(3), (0, 1, ABOVE), (1, 2, BELOW), (0, 2, ABOVE))
        self.assertEqual(told_of(two_ways, None, paths(0, 2)), [[2, 1, 1]])
        self.assertEqual(told_of(with_actions(two_ways, (0, 2, BELOW)), None, paths(0, 2)), [[2, 0, 2]])
        self.assertEqual(told_of(with_actions(two_ways, (1, 2, ABOVE)), None, paths(0, 2)), [[2, 2, 0]])
        # Below twice is above.
        self.assertEqual(told_of(with_actions(two_ways, (0, 1, BELOW)), None, paths(0, 2)), [[2, 2, 0]])
        # 0 to 3 past 1 (above), past 2 (below), past 1 and 2 (below).
        four = with_actions(
            nothing(4), (0, 1, ABOVE), (1, 3, ABOVE), (0, 2, BELOW), (2, 3, ABOVE), (1, 2, BELOW), (3, 0, ABOVE))
        self.assertEqual(told_of(four, None, paths(0, 3), paths(1, 3), paths(3, 2)), [[3, 1, 2], [2, 1, 1], [2, 0, 2]])

    def test_how_they_act_on_themselves_doesn_t_matter(self):
        for own in (BELOW, ABOVE):
            table = with_actions(line(3), (0, 0, own), (1, 1, own), (2, 2, own))
            self.assertEqual(told_of(table, None, paths(0, 2), path(0, 2, 0)), [[1, 1, 0], [2, 0, 1, 2]])

    def test_all_act_on_all(self):
        # By how many quantities lie between: 1 + 3 + 3 * 2 + 3 * 2 * 1.
        for number, n in ((1, 2), (2, 3), (5, 4), (16, 5)):
            for u in range(n):
                for v in range(n):
                    all_above = [[ABOVE] * n for i in range(n)]
                    expected = [1, 1, 0] if u == v else [number, number, 0]
                    self.assertEqual(told_of(all_above, None, paths(u, v)), [expected])

    def test_turned_one_between_changes_no_sign_and_one_at_an_end_does(self):
        calls = [paths(0, 2), turn(1), paths(0, 2), turn(0), paths(0, 2), turn(2), paths(0, 2)]
        self.assertEqual(told_of(line(3), None, *calls)[::2], [[1, 1, 0], [1, 1, 0], [1, 0, 1], [1, 1, 0]])


class Path(unittest.TestCase):
    def test_u_is_v(self):
        for n in range(1, 6):
            for table in (nothing(n), weakened(n), dense(n)):
                for u in range(n):
                    calls = [path(u, u, 0), path(u, u, 1), path(u, u, GREAT)]
                    self.assertEqual(told_of(table, None, *calls), [[2, u], [-33], [-33]])

    def test_no_path(self):
        self.assertEqual(told(begin(3), path(0, 2, 0), path(0, 2, 1), path(0, 2, GREAT)), [[0], [-33], [-33], [-33]])

    def test_one_path(self):
        for n in range(2, 6):
            calls = [path(0, n - 1, 0), path(0, n - 1, 1), path(0, n - 1, GREAT), path(n - 1, 0, 0)]
            self.assertEqual(told_of(line(n), None, *calls), [[2] + list(range(n)), [-33], [-33], [-33]])
        self.assertEqual(told_of([[NONE, BELOW], [NONE, NONE]], None, path(1, 0, 0), path(0, 1, 0)), [[0, 1, 0], [-33]])

    def test_several_in_order(self):
        table = with_actions(
            nothing(4), (0, 1, ABOVE), (1, 3, ABOVE), (0, 2, BELOW), (2, 3, ABOVE), (1, 2, BELOW), (0, 3, BELOW))
        expected = [[0, 0, 1, 2, 3], [2, 0, 1, 3], [0, 0, 2, 3], [0, 0, 3], [-33], [-33]]
        self.assertEqual(told_of(table, None, *[path(0, 3, k) for k in (0, 1, 2, 3, 4, GREAT)]), expected)

    def test_order_is_by_quantity_not_by_length(self):
        # From the greatest to the least: the straight path is the first one.
        table = with_actions(nothing(3), (2, 0, ABOVE), (2, 1, BELOW), (1, 0, ABOVE))
        self.assertEqual(told_of(table, None, path(2, 0, 0), path(2, 0, 1), path(2, 0, 2)), [[2, 2, 0], [0, 2, 1, 0], [-33]])

    def test_5_quantities_that_all_act_on_all(self):
        between = [
            [1, 2, 3], [1, 2], [1, 3, 2], [1, 3], [1], [2, 1, 3], [2, 1], [2, 3, 1], [2, 3], [2],
            [3, 1, 2], [3, 1], [3, 2, 1], [3, 2], [3], [],
        ]
        all_below = [[BELOW] * 5 for i in range(5)]
        calls = [paths(0, 4)] + [path(0, 4, k) for k in range(18)] + [path(0, 4, GREAT)]
        # Below as often as there are steps: above with one or three quantities between.
        expected = [[ABOVE if len(middle) % 2 else BELOW, 0] + middle + [4] for middle in between]
        self.assertEqual(told_of(all_below, None, *calls), [[16, 9, 7]] + expected + [[-33]] * 3)

    def check(self, table):
        for u in range(len(table)):
            for v in range(len(table)):
                expected = reference_paths(table, u, v)
                last = len(expected)
                calls = [paths(u, v)] + [path(u, v, k) for k in list(range(last)) + [last, last + 1, GREAT]]
                answered = told_in_parts(table, None, *calls)
                self.assertEqual(answered, [counts(expected)] + expected + [[-33]] * 3, (table, u, v))

    def test_every_k_in_all_tables_of_one_and_two(self):
        for n in (1, 2):
            for table in each_table(n):
                self.check(table)

    def test_every_k_in_drawn_tables(self):
        source = random.Random(37)
        for number in range(60):
            self.check(random_table(source, 3 + number % 3))

    def test_every_k_where_all_act_on_all(self):
        for n in range(1, 6):
            self.check(dense(n))

    def test_changes_nothing(self):
        calls = [paths(0, 2), path(0, 2, 0), path(0, 2, 1), path(0, 2, 2)]
        answered = told_of(dense(3), None, *calls, *calls)
        self.assertEqual(answered[:4], answered[4:])


if __name__ == "__main__":
    unittest.main()
