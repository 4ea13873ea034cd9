"""Promise 1: begin, action, push, calm, turn."""

import unittest

from tests.helper import ABOVE, ALL, BELOW, CALM, DET, NONE
from tests.helper import action, begin, ends, plant, push, row, state_after, told, told_of, turn


class Begin(unittest.TestCase):
    def test_each_number_of_quantities(self):
        for n in range(1, 6):
            self.assertEqual(told(begin(n)), [[0]])

    def test_nothing_acts_and_nothing_is_pushed(self):
        for n in range(1, 6):
            self.assertEqual(state_after(n, begin(n)), [NONE] * (n * n + n))

    def test_last_quantity_is_there_and_the_next_is_not(self):
        for n in range(1, 6):
            self.assertEqual(told(begin(n), push(n - 1, ABOVE), push(n, ABOVE)), [[0], [1], [-2]])

    def test_later_begin_begins_anew(self):
        first = plant([[BELOW, ABOVE], [BELOW, BELOW]], [ABOVE, BELOW])
        self.assertEqual(state_after(2, *first, begin(2)), [NONE] * 6)
        self.assertEqual(state_after(3, *first, begin(3)), [NONE] * 12)
        self.assertEqual(told(*first, begin(1), push(1, ABOVE), DET)[len(first):], [[0], [-2], [2]])


class Action(unittest.TestCase):
    def test_answers_what_it_was(self):
        for j in range(3):
            for i in range(3):
                calls = [begin(3), action(j, i, BELOW), action(j, i, ABOVE), action(j, i, NONE), action(j, i, NONE)]
                self.assertEqual(told(*calls), [[0], [1], [0], [2], [1]])

    def test_sets_that_action_alone(self):
        for n in range(1, 6):
            for j in range(n):
                for i in range(n):
                    expected = [NONE] * (n * n + n)
                    expected[i * n + j] = BELOW
                    self.assertEqual(state_after(n, begin(n), action(j, i, BELOW)), expected)

    def test_first_is_who_acts_second_is_who_is_acted_on(self):
        # 0 acts on 1: a push of 0 reaches 1, a push of 1 doesn't reach 0.
        made = [begin(2), action(0, 0, BELOW), action(1, 1, BELOW), action(0, 1, ABOVE), row(0), row(1)]
        self.assertEqual(told(*made)[-2:], [[2, 4, 4], [2, 2, 4]])


class Push(unittest.TestCase):
    def test_answers_what_it_was(self):
        for i in range(4):
            calls = [begin(4), push(i, ABOVE), push(i, BELOW), push(i, NONE), push(i, NONE)]
            self.assertEqual(told(*calls), [[0], [1], [2], [0], [1]])

    def test_sets_that_push_alone(self):
        for n in range(1, 6):
            for i in range(n):
                expected = [NONE] * (n * n + n)
                expected[n * n + i] = ABOVE
                self.assertEqual(state_after(n, begin(n), push(i, ABOVE)), expected)


class Calm(unittest.TestCase):
    def test_how_many_were_pushed(self):
        for n in range(1, 6):
            for pushed in range(n + 1):
                pushes = [(ABOVE, BELOW)[i % 2] for i in range(pushed)]
                made = plant([[NONE] * n for i in range(n)], pushes)
                self.assertEqual(told(*made, CALM, CALM)[-2:], [[pushed], [0]])

    def test_pushed_by_none_is_not_pushed(self):
        self.assertEqual(told(begin(2), push(0, NONE), push(1, ABOVE), push(1, NONE), CALM)[-1], [0])

    def test_no_push_is_left_and_each_action_stays(self):
        made = plant([[BELOW, ABOVE], [NONE, ABOVE]], [ABOVE, BELOW])
        self.assertEqual(state_after(2, *made, CALM), [BELOW, ABOVE, NONE, ABOVE, NONE, NONE])
        self.assertEqual(told(*made, ALL, CALM, ALL)[-3:], [[2, 4, 4], [2], [2, 2, 2]])


class Turn(unittest.TestCase):
    TABLE = [[BELOW, ABOVE, NONE], [BELOW, ABOVE, ABOVE], [ABOVE, NONE, BELOW]]
    PUSHES = [ABOVE, BELOW, NONE]

    def test_answers_0(self):
        for n in range(1, 6):
            for i in range(n):
                self.assertEqual(told(begin(n), turn(i)), [[0], [0]])

    def test_what_is_turned_about(self):
        made = plant(self.TABLE, self.PUSHES)
        of_0 = [BELOW, BELOW, NONE, ABOVE, ABOVE, ABOVE, BELOW, NONE, BELOW] + [BELOW, BELOW, NONE]
        of_1 = [BELOW, BELOW, NONE, ABOVE, ABOVE, BELOW, ABOVE, NONE, BELOW] + [ABOVE, ABOVE, NONE]
        of_2 = [BELOW, ABOVE, NONE, BELOW, ABOVE, BELOW, BELOW, NONE, BELOW] + [ABOVE, BELOW, NONE]
        self.assertEqual(state_after(3, *made, turn(0)), of_0)
        self.assertEqual(state_after(3, *made, turn(1)), of_1)
        self.assertEqual(state_after(3, *made, turn(2)), of_2)

    def test_how_it_acts_on_itself_is_not(self):
        for s in (BELOW, NONE, ABOVE):
            self.assertEqual(state_after(1, begin(1), action(0, 0, s), turn(0)), [s, NONE])

    def test_turned_twice_is_as_it_was(self):
        made = plant(self.TABLE, self.PUSHES)
        for i in range(3):
            self.assertEqual(state_after(3, *made, turn(i), turn(i)), state_after(3, *made))

    def test_it_changes_the_other_way_round_and_no_other_does(self):
        about = {1: 4, 2: 2, 4: 1, 7: 7}
        table = [[BELOW, BELOW, NONE], [ABOVE, BELOW, BELOW], [NONE, ABOVE, BELOW]]
        pushes = [ABOVE, NONE, BELOW]
        before = told_of(table, pushes, *[ends(j) for j in range(3)])
        for i in range(3):
            after = told_of(table, pushes, turn(i), *[ends(j) for j in range(3)])[1:]
            expected = [[about[was[0]]] if j == i else was for j, was in enumerate(before)]
            self.assertEqual(after, expected)


if __name__ == "__main__":
    unittest.main()
