"""Promise 3: loops, loop and through."""

import random
import unittest

from tests.helper import ABOVE, BELOW, GREAT, LOOPS
from tests.helper import begin, counts, dense, each_table, loop, nothing, random_table, reference_loops, round_of
from tests.helper import through, told, told_in_parts, told_of, turn, with_actions


class Loops(unittest.TestCase):
    def test_none(self):
        for n in range(1, 6):
            calls = [LOOPS, loop(0), loop(1), loop(GREAT)] + [through(i) for i in range(n)]
            expected = [[0, 0, 0], [-33], [-33], [-33]] + [[0, 0, 0]] * n
            self.assertEqual(told(begin(n), *calls)[1:], expected)
            onwards = with_actions(nothing(n), *[(j, i, ABOVE) for i in range(n) for j in range(i)])
            self.assertEqual(told_of(onwards, None, *calls), expected)

    def test_one_that_acts_on_itself(self):
        for n in range(1, 6):
            for own in (BELOW, ABOVE):
                for i in range(n):
                    how_many = [1, 1, 0] if own == ABOVE else [1, 0, 1]
                    calls = [LOOPS, loop(0), loop(1), loop(GREAT)] + [through(j) for j in range(n)]
                    expected = [how_many, [own, i], [-33], [-33]]
                    expected += [how_many if j == i else [0, 0, 0] for j in range(n)]
                    self.assertEqual(told_of(with_actions(nothing(n), (i, i, own)), None, *calls), expected)

    def test_loop_of_two(self):
        calls = [LOOPS, loop(0), loop(1), through(0), through(1), through(2)]
        for there, back, sign in ((2, 2, 2), (2, 0, 0), (0, 2, 0), (0, 0, 2)):
            table = with_actions(nothing(3), (2, 1, there), (1, 2, back))
            how_many = [1, 1, 0] if sign == ABOVE else [1, 0, 1]
            self.assertEqual(told_of(table, None, *calls), [how_many, [sign, 1, 2], [-33], [0, 0, 0], how_many, how_many])

    def test_of_three_to_five(self):
        for quantities in ([0, 1, 2], [0, 2, 1], [1, 4, 2], [0, 3, 1, 4], [1, 2, 3, 4], [0, 1, 2, 3, 4], [0, 4, 2, 3, 1]):
            table = with_actions(nothing(5), *round_of(*quantities))
            calls = [LOOPS, loop(0), loop(1)] + [through(i) for i in range(5)]
            gone_through = [[1, 1, 0] if i in quantities else [0, 0, 0] for i in range(5)]
            self.assertEqual(told_of(table, None, *calls), [[1, 1, 0], [2] + quantities, [-33]] + gone_through)

    def test_begun_with_its_least_quantity(self):
        for begun in ([1, 3, 2], [3, 2, 1], [2, 1, 3]):
            table = with_actions(nothing(4), *round_of(*begun))
            self.assertEqual(told_of(table, None, LOOPS, loop(0), loop(1)), [[1, 1, 0], [2, 1, 3, 2], [-33]])

    def test_sign_is_of_all_its_actions_the_last_one_too(self):
        steps = round_of(0, 1, 2)
        for turned in range(3):
            table = with_actions(nothing(3), *[(j, i, BELOW if k == turned else s) for k, (j, i, s) in enumerate(steps)])
            self.assertEqual(told_of(table, None, LOOPS, loop(0)), [[1, 0, 1], [0, 0, 1, 2]])
            twice = with_actions(nothing(3), *[(j, i, s if k == turned else BELOW) for k, (j, i, s) in enumerate(steps)])
            self.assertEqual(told_of(twice, None, LOOPS, loop(0)), [[1, 1, 0], [2, 0, 1, 2]])

    def test_same_quantities_round_the_other_way(self):
        # Both ways round each step there and back is a loop of two as well.
        table = with_actions(nothing(3), *round_of(0, 1, 2), *round_of(0, 2, 1))
        table = with_actions(table, (0, 2, BELOW))
        calls = [LOOPS] + [loop(k) for k in range(6)] + [through(i) for i in range(3)]
        told_loops = [[2, 0, 1], [2, 0, 1, 2], [0, 0, 2], [0, 0, 2, 1], [2, 1, 2], [-33]]
        self.assertEqual(told_of(table, None, *calls), [[5, 3, 2]] + told_loops + [[4, 2, 2], [4, 3, 1], [4, 2, 2]])

    def test_one_that_another_one_begins_with_is_ahead_of_it(self):
        table = with_actions(nothing(4), (0, 0, BELOW), *round_of(0, 1), *round_of(0, 1, 2), *round_of(0, 1, 2, 3))
        self.assertEqual(
            told_of(table, None, LOOPS, *[loop(k) for k in range(5)]),
            [[4, 3, 1], [0, 0], [2, 0, 1], [2, 0, 1, 2], [2, 0, 1, 2, 3], [-33]])

    def test_order_is_by_quantity_not_by_length(self):
        table = with_actions(nothing(4), (3, 3, ABOVE), (1, 1, BELOW), *round_of(0, 2, 1, 3), *round_of(0, 3))
        self.assertEqual(
            told_of(table, None, LOOPS, *[loop(k) for k in (0, 1, 2, 3, 4, GREAT)]),
            [[4, 3, 1], [2, 0, 2, 1, 3], [2, 0, 3], [0, 1], [2, 3], [-33], [-33]])

    def test_quantity_that_no_loop_goes_through(self):
        # 2 is acted on by a loop and acts on another one.
        table = with_actions(nothing(5), *round_of(0, 1), *round_of(3, 4), (1, 2, ABOVE), (2, 3, BELOW), (3, 3, BELOW))
        calls = [LOOPS] + [through(i) for i in range(5)]
        self.assertEqual(told_of(table, None, *calls), [[3, 2, 1], [1, 1, 0], [1, 1, 0], [0, 0, 0], [2, 1, 1], [1, 1, 0]])

    def test_all_act_on_all(self):
        # So many quantities each way round: one for each, pairs, threes twice, fours six times, all 24 times.
        for number, gone_through, n in ((1, 1, 1), (3, 2, 2), (8, 5, 3), (24, 16, 4), (89, 65, 5)):
            all_above = [[ABOVE] * n for i in range(n)]
            calls = [LOOPS] + [through(i) for i in range(n)]
            self.assertEqual(told_of(all_above, None, *calls), [[number, number, 0]] + [[gone_through, gone_through, 0]] * n)

    def test_turned_no_loop_changes_its_sign(self):
        calls = [LOOPS] + [loop(k) for k in range(24)]
        before = told_of(dense(4), None, *calls)
        for i in range(4):
            self.assertEqual(told_of(dense(4), None, turn(i), *calls)[1:], before)


class EveryLoop(unittest.TestCase):
    def check(self, table):
        expected = reference_loops(table)
        last = len(expected)
        calls = [LOOPS] + [loop(k) for k in list(range(last)) + [last, last + 1, GREAT]]
        answered = told_in_parts(table, None, *calls)
        self.assertEqual(answered, [counts(expected)] + expected + [[-33]] * 3, table)
        gone_through = [counts([one for one in expected if i in one[1:]]) for i in range(len(table))]
        self.assertEqual(told_of(table, None, *[through(i) for i in range(len(table))]), gone_through, table)

    def test_every_k_in_all_tables_of_one_and_two(self):
        for n in (1, 2):
            for table in each_table(n):
                self.check(table)

    def test_every_k_in_drawn_tables(self):
        source = random.Random(41)
        for number in range(150):
            self.check(random_table(source, 3 + number % 3))

    def test_every_k_where_all_act_on_all(self):
        for n in range(1, 6):
            self.check(dense(n))

    def test_changes_nothing(self):
        calls = [LOOPS, loop(0), loop(7), loop(8), through(1)]
        answered = told_of(dense(3), None, *calls, *calls)
        self.assertEqual(answered[:5], answered[5:])


if __name__ == "__main__":
    unittest.main()
