"""Promise 4: feeds, look and state."""

import random
import unittest

from tests.helper import ABOVE, BELOW, CALM, NONE, STATE
from tests.helper import action, begin, dense, feeds, look, nothing, plant, push, random_table, state_after, told
from tests.helper import told_of, turn, weakened, with_actions

# 0 weakens itself and acts on 1 and 3; 1 acts on 3; 3 strengthens itself and acts on 1; 2 has nothing to do with them.
TABLE = with_actions(
    nothing(4), (0, 0, BELOW), (0, 1, ABOVE), (0, 3, BELOW), (1, 3, ABOVE), (3, 3, ABOVE), (3, 1, BELOW))
PUSHES = [ABOVE, NONE, BELOW, ABOVE]


def each(call, n=4):
    return [call(i) for i in range(n)]


class AtFirst(unittest.TestCase):
    def test_each_number_of_quantities(self):
        for n in range(1, 6):
            expected = [[0]] * n + [[NONE] * (n + 1)] * n + [[n] + [NONE] * n + [0]]
            self.assertEqual(told(begin(n), *each(feeds, n), *each(look, n), STATE)[1:], expected)

    def test_again_after_a_later_begin(self):
        calls = [*plant(TABLE, PUSHES), begin(2), feeds(1), look(1), look(2), STATE]
        self.assertEqual(told(*calls)[-4:], [[0], [1, 1, 1], [-2], [2, 1, 1, 0]])


class Feeds(unittest.TestCase):
    def test_who_acts_rising(self):
        self.assertEqual(told_of(TABLE, None, *each(feeds)), [[1, 0], [2, 0, 3], [0], [3, 0, 1, 3]])

    def test_itself_too(self):
        for n in range(1, 6):
            self.assertEqual(told_of(weakened(n), None, *each(feeds, n)), [[1, i] for i in range(n)])

    def test_all_act_on_all(self):
        for n in range(1, 6):
            self.assertEqual(told_of(dense(n), None, *each(feeds, n)), [[n] + list(range(n))] * n)

    def test_rising_whichever_action_came_first(self):
        calls = [begin(5), action(4, 1, ABOVE), action(2, 1, BELOW), action(3, 1, ABOVE), action(0, 1, BELOW), feeds(1)]
        self.assertEqual(told(*calls)[-1], [4, 0, 2, 3, 4])

    def test_no_longer_once_the_action_is_none(self):
        self.assertEqual(told_of(TABLE, None, action(0, 3, NONE), feeds(3)), [[0], [2, 1, 3]])

    def test_pushes_turns_and_calm_don_t_matter(self):
        calls = each(feeds)
        expected = told_of(TABLE, None, *calls)
        self.assertEqual(told_of(TABLE, PUSHES, *calls), expected)
        self.assertEqual(told_of(TABLE, PUSHES, CALM, turn(3), turn(0), *calls)[3:], expected)


class Look(unittest.TestCase):
    def test_push_then_how_each_acts_on_it(self):
        expected = [[2, 0, 1, 1, 1], [1, 2, 1, 1, 0], [0, 1, 1, 1, 1], [2, 0, 2, 1, 2]]
        self.assertEqual(told_of(TABLE, PUSHES, *each(look)), expected)

    def test_one_quantity(self):
        for own in range(3):
            for pushed in range(3):
                self.assertEqual(told_of([[own]], [pushed], look(0)), [[pushed, own]])

    def test_after_turn(self):
        expected = [[2, 0, 1, 1, 1], [1, 2, 1, 1, 2], [0, 1, 1, 1, 1], [0, 2, 0, 1, 2]]
        self.assertEqual(told_of(TABLE, PUSHES, turn(3), *each(look))[1:], expected)
        expected = [[0, 0, 1, 1, 1], [1, 0, 1, 1, 0], [0, 1, 1, 1, 1], [2, 2, 2, 1, 2]]
        self.assertEqual(told_of(TABLE, PUSHES, turn(0), *each(look))[1:], expected)

    def test_after_calm(self):
        expected = [[1, 0, 1, 1, 1], [1, 2, 1, 1, 0], [1, 1, 1, 1, 1], [1, 0, 2, 1, 2]]
        self.assertEqual(told_of(TABLE, PUSHES, CALM, *each(look))[1:], expected)


class State(unittest.TestCase):
    def test_after_actions_and_pushes(self):
        self.assertEqual(told_of(TABLE, PUSHES, STATE), [[4, 2, 1, 0, 2, 6]])
        calls = [begin(3), action(2, 0, BELOW), STATE, push(1, BELOW), STATE, action(2, 0, ABOVE), STATE]
        calls += [action(0, 0, ABOVE), STATE, action(2, 0, NONE), STATE, action(1, 1, NONE), STATE, push(1, NONE), STATE]
        expected = [
            [3, 1, 1, 1, 1], [3, 1, 0, 1, 1], [3, 1, 0, 1, 1], [3, 1, 0, 1, 2], [3, 1, 0, 1, 1], [3, 1, 0, 1, 1],
            [3, 1, 1, 1, 1],
        ]
        self.assertEqual(told(*calls)[2::2], expected)

    def test_how_many_actions(self):
        for n in range(1, 6):
            self.assertEqual(told_of(dense(n), None, STATE), [[n] + [NONE] * n + [n * n]])
            self.assertEqual(told_of(weakened(n), [BELOW] * n, STATE), [[n] + [BELOW] * n + [n]])

    def test_after_turn_and_calm(self):
        calls = [turn(0), STATE, turn(1), STATE, turn(2), STATE, CALM, STATE, turn(3), STATE]
        expected = [
            [4, 0, 1, 0, 2, 6], [4, 0, 1, 0, 2, 6], [4, 0, 1, 2, 2, 6], [4, 1, 1, 1, 1, 6], [4, 1, 1, 1, 1, 6],
        ]
        self.assertEqual(told_of(TABLE, PUSHES, *calls)[1::2], expected)


class Agreeing(unittest.TestCase):
    """The three, and what actions and pushes answer of what was, tell the same."""

    def test_drawn_plants(self):
        source = random.Random(47)
        for number in range(60):
            n = 1 + number % 5
            table = random_table(source, n)
            pushes = [source.randrange(3) for i in range(n)]
            # What shows what is kept takes up to 30 calls, so no more than 27 of the 60 go ahead of it.
            made = plant(table, pushes)[:26] + [turn(source.randrange(n))]
            kept = state_after(n, *made)
            rows = [kept[i * n:i * n + n] for i in range(n)]
            answered = told(*made, *each(look, n), *each(feeds, n), STATE)[len(made):]
            self.assertEqual(answered[:n], [[kept[n * n + i]] + rows[i] for i in range(n)])
            acting = [[j for j in range(n) if rows[i][j] != NONE] for i in range(n)]
            self.assertEqual(answered[n:2 * n], [[len(one)] + one for one in acting])
            self.assertEqual(answered[2 * n], [n] + kept[n * n:] + [sum(len(one) for one in acting)])

    def test_they_change_nothing(self):
        made = plant(TABLE, PUSHES)
        self.assertEqual(state_after(4, *made, *each(feeds), *each(look), STATE), state_after(4, *made))

    def test_each_answer_is_of_its_own_time(self):
        # What was told before isn't changed by what comes behind it.
        calls = [look(0), STATE, action(1, 0, ABOVE), push(0, BELOW), turn(0), CALM, look(0), STATE]
        answered = told_of(TABLE, PUSHES, *calls)
        self.assertEqual(answered[:2], [[2, 0, 1, 1, 1], [4, 2, 1, 0, 2, 6]])
        self.assertEqual(answered[-2:], [[1, 0, 0, 1, 1], [4, 1, 1, 1, 1, 7]])


if __name__ == "__main__":
    unittest.main()
