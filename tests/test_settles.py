"""Promise 4: settles."""

import random
import unittest

from tests.helper import ABOVE, BELOW, DET, NONE, SETTLES
from tests.helper import begin, dense, each_table, nothing, random_table, reference_det, reference_loops, round_of, told
from tests.helper import told_of, turn, weakened, with_actions


def all_that_are_so(table):
    """Which of the five things are so, each by itself."""
    loops = reference_loops(table)
    own = [table[i][i] for i in range(len(table))]
    so = {
        1: ABOVE in own,
        2: own == [NONE] * len(own),
        3: any(len(one) == 3 and one[0] == ABOVE for one in loops),
        4: any(len(one) >= 4 for one in loops),
        5: reference_det(table) == 2,
    }
    return [number for number in so if so[number]]


class Settles(unittest.TestCase):
    def settles(self, table):
        return told_of(table, None, SETTLES)[0][0]

    def test_each_answer(self):
        for n in range(1, 6):
            self.assertEqual(self.settles(weakened(n)), 0)
            self.assertEqual(told(begin(n), SETTLES), [[0], [2]])
            for i in range(n):
                self.assertEqual(self.settles(with_actions(weakened(n), (i, i, ABOVE))), 1)
                if n > 1:
                    self.assertEqual(self.settles(with_actions(weakened(n), (i, i, NONE))), 5)
        for n in range(2, 6):
            for i in range(n - 1):
                self.assertEqual(self.settles(with_actions(weakened(n), *round_of(i, i + 1))), 3)
                below_twice = with_actions(weakened(n), (i, i + 1, BELOW), (i + 1, i, BELOW))
                self.assertEqual(self.settles(below_twice), 3)
                self.assertEqual(self.settles(with_actions(below_twice, (i, i + 1, ABOVE))), 0)
        for n in range(3, 6):
            self.assertEqual(self.settles(with_actions(weakened(n), *round_of(*range(n)))), 4)
            self.assertEqual(self.settles(with_actions(weakened(n), *round_of(0, n - 1, 1))), 4)

    def test_loop_of_three_or_more_whichever_its_sign(self):
        for last in (BELOW, ABOVE):
            for length in (3, 4, 5):
                rounds = round_of(*range(length))
                table = with_actions(weakened(5), *rounds[:-1], (length - 1, 0, last))
                self.assertEqual(self.settles(table), 4)

    def test_paths_alone_don_t_matter(self):
        for n in range(2, 6):
            onwards = with_actions(weakened(n), *[(j, i, (ABOVE, BELOW)[i % 2]) for i in range(n) for j in range(i)])
            self.assertEqual(self.settles(onwards), 0)

    def test_one_that_weakens_itself_is_enough(self):
        chain = [[BELOW, BELOW, NONE], [ABOVE, NONE, BELOW], [NONE, ABOVE, NONE]]
        self.assertEqual(self.settles(chain), 0)
        self.assertEqual(self.settles(with_actions(chain, (0, 0, NONE))), 2)
        # In the middle of three it isn't: the ends don't hold each other.
        self.assertEqual(self.settles(with_actions(chain, (0, 0, NONE), (1, 1, BELOW))), 5)

    def test_first_that_is_so_of_two(self):
        # 1 and 2 aren't so at once.
        above = with_actions(weakened(3), (2, 2, ABOVE))
        three = round_of(0, 1, 2)
        empty_row = with_actions(weakened(4), (3, 3, NONE))
        both = {
            (1, 3): with_actions(above, *round_of(0, 1)),
            (1, 4): with_actions(above, *three),
            (1, 5): with_actions(above, (0, 0, NONE)),
            (2, 3): with_actions(nothing(2), *round_of(0, 1)),
            (2, 4): with_actions(nothing(3), *three),
            (2, 5): nothing(3),
            (3, 4): with_actions(weakened(4), *round_of(0, 3), *three),
            (3, 5): with_actions(empty_row, *round_of(0, 1)),
            (4, 5): with_actions(empty_row, *three),
        }
        for numbers, table in both.items():
            self.assertEqual(all_that_are_so(table), list(numbers))
            self.assertEqual(self.settles(table), numbers[0], numbers)

    def test_first_that_is_so_of_many(self):
        table = with_actions(nothing(5), *round_of(0, 1), *round_of(1, 2, 3))
        self.assertEqual((all_that_are_so(table), self.settles(table)), ([2, 3, 4, 5], 2))
        table[0][0] = ABOVE
        self.assertEqual((all_that_are_so(table), self.settles(table)), ([1, 3, 4, 5], 1))
        table[0][0] = BELOW
        self.assertEqual((all_that_are_so(table), self.settles(table)), ([3, 4, 5], 3))
        table[1][0] = BELOW
        self.assertEqual((all_that_are_so(table), self.settles(table)), ([4, 5], 4))
        table[1][3] = NONE
        self.assertEqual((all_that_are_so(table), self.settles(table)), ([5], 5))

    def test_all_three_is_not_none_alone(self):
        table = with_actions(weakened(3), *round_of(0, 1, 2))
        self.assertEqual(told_of(table, None, DET, SETTLES), [[7], [4]])

    def test_all_act_on_all(self):
        for n in range(1, 6):
            self.assertEqual(self.settles([[ABOVE] * n for i in range(n)]), 1)
            self.assertEqual(self.settles([[BELOW] * n for i in range(n)]), 0 if n == 1 else 3)
            self.assertEqual(self.settles(dense(n)), (all_that_are_so(dense(n)) + [0])[0])

    def test_pushes_and_turns_don_t_matter(self):
        table = with_actions(weakened(3), (0, 1, ABOVE), (1, 0, BELOW), (1, 2, ABOVE))
        for i in range(3):
            self.assertEqual(told_of(table, [ABOVE, BELOW, NONE], SETTLES, turn(i), SETTLES), [[0], [0], [0]])

    def check(self, tables):
        answered = []
        for table in tables:
            answered.append(self.settles(table))
            self.assertEqual(answered[-1], (all_that_are_so(table) + [0])[0], table)
        return answered

    def test_all_tables_of_one_and_two(self):
        self.assertEqual(set(self.check(each_table(1))), {0, 1, 2})
        self.assertEqual(set(self.check(each_table(2))), {0, 1, 2, 3, 5})

    def test_drawn_tables(self):
        source = random.Random(43)
        drawn = [random_table(source, 3 + number % 3, (BELOW, NONE, NONE, NONE, ABOVE)) for number in range(600)]
        for number, table in enumerate(drawn):
            # Few draws would have no quantity that strengthens itself.
            for i in range(len(table)):
                table[i][i] = min(table[i][i], NONE) if number % 4 else table[i][i]
        self.assertEqual(set(self.check(drawn)), {0, 1, 2, 3, 4, 5})


if __name__ == "__main__":
    unittest.main()
