"""Promise 2: det, ends, all, if, row, without."""

import random
import unittest

from tests.helper import ABOVE, ALL, BELOW, CALM, DET, NONE
from tests.helper import each_table, ends, if_pushed, push, random_table, reference_change, reference_det, row
from tests.helper import sure_tables, told_of, weakened, without

# A prey (0) that weakens itself and what preys on it (1): the determinant is above.
PREY = [[BELOW, BELOW], [ABOVE, NONE]]
# A chain of prey: 1 preys on 0, 2 on 1; only 0 weakens itself: the determinant is below.
CHAIN = [[BELOW, BELOW, NONE], [ABOVE, NONE, BELOW], [NONE, ABOVE, NONE]]


class Det(unittest.TestCase):
    def det(self, table):
        return told_of(table, None, DET)[0]

    def test_one_quantity(self):
        self.assertEqual(self.det([[NONE]]), [2])
        self.assertEqual(self.det([[ABOVE]]), [4])
        self.assertEqual(self.det([[BELOW]]), [1])

    def test_each_answer_of_two(self):
        self.assertEqual(self.det([[ABOVE, ABOVE], [NONE, NONE]]), [2])
        self.assertEqual(self.det(PREY), [4])
        self.assertEqual(self.det([[BELOW, NONE], [NONE, ABOVE]]), [1])
        self.assertEqual(self.det([[BELOW, ABOVE], [ABOVE, BELOW]]), [7])

    def test_each_answer_of_three(self):
        self.assertEqual(self.det([[ABOVE, ABOVE, ABOVE], [NONE, NONE, BELOW], [NONE, NONE, ABOVE]]), [2])
        self.assertEqual(self.det([[NONE, ABOVE, NONE], [NONE, NONE, ABOVE], [ABOVE, NONE, NONE]]), [4])
        self.assertEqual(self.det([[NONE, NONE, ABOVE], [NONE, ABOVE, NONE], [ABOVE, NONE, NONE]]), [1])
        self.assertEqual(self.det([[BELOW, NONE, ABOVE], [ABOVE, BELOW, NONE], [NONE, ABOVE, BELOW]]), [7])

    def test_weakening_themselves_by_number(self):
        self.assertEqual([self.det(weakened(n)) for n in range(1, 6)], [[1], [4], [1], [4], [1]])

    def test_round_of_all_by_number(self):
        # Each row takes the one before it, the first the last: n - 1 pairs go against the order.
        rounds = [[[ABOVE if j == (i - 1) % n else NONE for j in range(n)] for i in range(n)] for n in range(1, 6)]
        self.assertEqual([self.det(table) for table in rounds], [[4], [1], [4], [1], [4]])

    def test_nothing_acts(self):
        self.assertEqual([self.det([[NONE] * n for i in range(n)]) for n in range(1, 6)], [[2]] * 5)

    def test_pushes_don_t_matter(self):
        self.assertEqual(told_of(PREY, [ABOVE, BELOW], DET), [[4]])

    def test_all_tables_of_two(self):
        for table in each_table(2):
            self.assertEqual(self.det(table), [reference_det(table)], table)

    def test_drawn_tables(self):
        source = random.Random(11)
        for number in range(300):
            table = random_table(source, 1 + number % 5)
            self.assertEqual(self.det(table), [reference_det(table)], table)


class Ends(unittest.TestCase):
    def test_one_quantity(self):
        for acts, push_sign, expected in ((0, 0, 1), (0, 1, 2), (0, 2, 4), (2, 0, 4), (2, 1, 2), (2, 2, 1)):
            self.assertEqual(told_of([[acts]], [push_sign], ends(0), ALL), [[expected], [1, expected]])

    def test_determinant_above(self):
        self.assertEqual(told_of(PREY, [ABOVE, NONE], ends(0), ends(1), ALL), [[2], [4], [2, 2, 4]])
        self.assertEqual(told_of(PREY, [NONE, ABOVE], ends(0), ends(1), ALL), [[1], [4], [2, 1, 4]])
        self.assertEqual(told_of(PREY, [ABOVE, BELOW], ends(0), ends(1), ALL), [[4], [7], [2, 4, 7]])

    def test_determinant_below(self):
        changes = [ends(0), ends(1), ends(2), ALL]
        self.assertEqual(told_of(CHAIN, [ABOVE, NONE, NONE], *changes), [[4], [2], [4], [3, 4, 2, 4]])
        self.assertEqual(told_of(CHAIN, [NONE, ABOVE, NONE], *changes), [[2], [2], [4], [3, 2, 2, 4]])
        self.assertEqual(told_of(CHAIN, [NONE, NONE, BELOW], *changes), [[1], [4], [1], [3, 1, 4, 1]])

    def test_four_and_five_quantities(self):
        four = weakened(4)
        four[3][0] = BELOW
        self.assertEqual(told_of(four, [ABOVE, BELOW, NONE, NONE], ALL), [[4, 4, 1, 2, 1]])
        five = weakened(5)
        five[4][0], five[0][2] = ABOVE, BELOW
        self.assertEqual(told_of(five, [NONE, BELOW, ABOVE, NONE, NONE], ALL), [[5, 1, 1, 4, 2, 1]])

    def test_no_pushes(self):
        for n in range(1, 6):
            self.assertEqual(told_of(weakened(n), None, ALL), [[n] + [2] * n])

    def test_not_sure(self):
        for table in ([[NONE]], [[BELOW, ABOVE], [ABOVE, BELOW]]):
            self.assertEqual(told_of(table, [ABOVE], ends(0), ALL), [[-33], [-33]])

    def test_drawn_tables(self):
        for table, pushes in sure_tables(200):
            expected = [reference_change(table, pushes, j) for j in range(len(table))]
            changes = [ends(j) for j in range(len(table))]
            answered = told_of(table, pushes, ALL, *changes)
            self.assertEqual(answered, [[len(table)] + expected] + [[one] for one in expected], table)


class IfAndRow(unittest.TestCase):
    def test_determinant_above(self):
        self.assertEqual(told_of(PREY, None, row(0), row(1)), [[2, 2, 4], [2, 1, 4]])
        calls = [if_pushed(1, s, j) for s in range(3) for j in range(2)]
        self.assertEqual(told_of(PREY, None, *calls), [[4], [1], [2], [2], [1], [4]])

    def test_determinant_below(self):
        self.assertEqual(told_of(CHAIN, None, row(0), row(1), row(2)), [[3, 4, 2, 4], [3, 2, 2, 4], [3, 4, 1, 4]])
        calls = [if_pushed(2, s, j) for s in range(3) for j in range(3)]
        self.assertEqual(told_of(CHAIN, None, *calls), [[1], [4], [1], [2], [2], [2], [4], [1], [4]])

    def test_pushes_that_are_there_don_t_matter_and_stay(self):
        calls = [row(0), if_pushed(0, BELOW, 1), push(0, NONE), push(1, NONE)]
        self.assertEqual(told_of(PREY, [BELOW, ABOVE], *calls), [[2, 2, 4], [1], [0], [2]])

    def test_not_sure(self):
        table = [[BELOW, ABOVE], [ABOVE, BELOW]]
        self.assertEqual(told_of(table, None, row(1), if_pushed(0, NONE, 0)), [[-33], [-33]])

    def test_drawn_tables(self):
        for table, pushes in sure_tables(150):
            n = len(table)
            for i in range(n):
                up = [ABOVE if k == i else NONE for k in range(n)]
                down = [BELOW if k == i else NONE for k in range(n)]
                rises = [reference_change(table, up, j) for j in range(n)]
                falls = [[reference_change(table, down, j)] for j in range(n)]
                calls = [if_pushed(i, BELOW, j) for j in range(n)]
                self.assertEqual(told_of(table, pushes, row(i), *calls), [[n] + rises] + falls, table)


class Without(unittest.TestCase):
    LOOP = [[BELOW, ABOVE], [ABOVE, BELOW]]

    def test_where_it_changes_the_determinant(self):
        self.assertEqual(told_of(self.LOOP, None, DET, without(0, 1), without(1, 0)), [[7], [4], [4]])
        self.assertEqual(told_of(self.LOOP, None, without(0, 0), without(1, 1)), [[1], [1]])
        self.assertEqual(told_of([[ABOVE]], None, without(0, 0)), [[2]])
        self.assertEqual(told_of(CHAIN, None, DET, without(0, 0), without(2, 1)), [[1], [2], [2]])

    def test_where_it_doesn_t(self):
        self.assertEqual(told_of(PREY, None, DET, without(0, 0), without(1, 1)), [[4], [4], [4]])
        self.assertEqual(told_of(CHAIN, None, DET, without(0, 1), without(1, 0)), [[1], [1], [1]])

    def test_first_is_who_acts_second_is_who_is_acted_on(self):
        # 1 acts on 0, which closes the one loop; 0 doesn't act on 1.
        table = [[NONE, ABOVE, NONE], [NONE, NONE, ABOVE], [ABOVE, NONE, NONE]]
        self.assertEqual(told_of(table, None, without(1, 0), without(0, 1)), [[2], [4]])

    def test_changes_nothing(self):
        calls = [without(0, 1), DET, ALL, without(0, 0), DET, CALM]
        self.assertEqual(told_of(PREY, [ABOVE, NONE], *calls), [[2], [4], [2, 2, 4], [4], [4], [1]])

    def test_drawn_tables(self):
        source = random.Random(7)
        for number in range(100):
            table = random_table(source, 1 + number % 5)
            n = len(table)
            pairs = [(j, i) for j in range(n) for i in range(n)]
            expected = []
            for j, i in pairs:
                other = [list(signs) for signs in table]
                other[i][j] = NONE
                expected.append([reference_det(other)])
            self.assertEqual(told_of(table, None, *[without(j, i) for j, i in pairs]), expected, table)


if __name__ == "__main__":
    unittest.main()
