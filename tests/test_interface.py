"""The interface: one list in, one list out, nothing changed and nothing kept."""

import unittest

from signsonly.pressed import answers
from tests.helper import ABOVE, ALL, BELOW, CALM, DET, GREAT, IDLES, LOOPS, SETTLES, STATE
from tests.helper import action, begin, counts, dense, ends, feeds, idle, if_pushed, look, loop, path, paths, plant, push
from tests.helper import reference_idle, reference_loops, reference_paths, row, through, told, turn, without


def flat(*calls):
    return [number for call in calls for number in call]


# All 22 calls, rising: a prey (0) that weakens itself and what preys on it (1), which is then told the other way round.
EACH = flat(
    begin(2), action(0, 0, BELOW), action(1, 0, BELOW), action(0, 1, ABOVE), push(0, ABOVE), CALM, turn(1), DET, ends(1),
    ALL, if_pushed(1, ABOVE, 0), row(1), without(0, 1), idle(0, 0), IDLES, paths(0, 1), path(0, 1, 0), LOOPS, loop(1),
    through(1), SETTLES, feeds(0), look(0), STATE,
)
EACH_TOLD = flat(
    # begin, three actions, push, calm, turn
    [1, 0], [1, 1], [1, 1], [1, 1], [1, 1], [1, 1], [1, 0],
    # det, ends, all, if, row, without
    [1, 4], [1, 2], [3, 2, 2, 2], [1, 4], [3, 2, 4, 4], [1, 2],
    # idle, idles, paths, path, loops, loop, through
    [1, 0], [1, 0], [3, 1, 0, 1], [3, 0, 0, 1], [3, 2, 0, 2], [3, 0, 0, 1], [3, 1, 0, 1],
    # settles, feeds, look, state
    [1, 0], [3, 2, 0, 1], [3, 1, 0, 2], [4, 2, 1, 1, 3],
)


class Interface(unittest.TestCase):
    def test_all_22_calls_by_their_numbers(self):
        self.assertEqual(answers(EACH), EACH_TOLD)

    def test_all_22_calls_written_out(self):
        calls = [
            0, 2, 1, 0, 0, 0, 1, 1, 0, 0, 1, 0, 1, 2, 2, 0, 2, 3, 4, 1, 5, 6, 1, 7, 8, 1, 2, 0, 9, 1, 10, 0, 1,
            11, 0, 0, 12, 13, 0, 1, 14, 0, 1, 0, 15, 16, 1, 17, 1, 18, 19, 0, 20, 0, 21,
        ]
        self.assertEqual(answers(calls), EACH_TOLD)

    def test_refusals_among_others(self):
        calls = [look(0), begin(9), begin(2), path(0, 1, GREAT), STATE, look(2), loop(0), IDLES, begin(0), STATE]
        expected = [1, -11, 1, -22, 1, 0, 1, -33, 4, 2, 1, 1, 0, 1, -2, 1, -33, 1, 0, 1, -22, 4, 2, 1, 1, 0]
        self.assertEqual(answers(flat(*calls)), expected)

    def test_counts_that_the_words_tell_and_no_others(self):
        made = flat(begin(2), action(1, 0, ABOVE))
        ahead = answers(made)
        for call, expected in (
            (IDLES, [3, 1, 1, 0]), (feeds(0), [2, 1, 1]), (feeds(1), [1, 0]), (STATE, [4, 2, 1, 1, 1]),
            (path(1, 0, 0), [3, 2, 1, 0]), (look(0), [3, 1, 1, 2]), (paths(1, 0), [3, 1, 1, 0]), (LOOPS, [3, 0, 0, 0]),
            (through(0), [3, 0, 0, 0]), (idle(1, 0), [1, 1]), (SETTLES, [1, 2]), (loop(0), [1, -33]),
        ):
            self.assertEqual(answers(made + call), ahead + expected, call)
        self.assertEqual(answers(flat(begin(1), action(0, 0, ABOVE), loop(0))), [1, 0, 1, 1, 2, 2, 0])

    def test_counts_ahead_of_each_answer(self):
        self.assertEqual(answers([0, 5]), [1, 0])
        self.assertEqual(answers([5]), [1, -11])
        self.assertEqual(answers([0, 1, 1, 0, 0, 0, 7]), [1, 0, 1, 1, 2, 1, 2])

    def test_list_handed_in_is_the_same_afterwards(self):
        calls = list(EACH)
        answers(calls)
        self.assertEqual(calls, EACH)

    def test_list_handed_in_is_not_changed_for_a_while_either(self):
        class Watched(list):
            def refuse(self, *given):
                raise AssertionError("changed")
            append = extend = insert = pop = remove = clear = sort = reverse = refuse
            __setitem__ = __delitem__ = __iadd__ = __imul__ = refuse

        self.assertEqual(answers(Watched(EACH)), EACH_TOLD)

    def test_second_time_gives_the_same(self):
        calls = list(EACH)
        self.assertEqual(answers(calls), answers(calls))

    def test_answer_is_a_list_of_its_own(self):
        first = answers([0, 3])
        first.append(9)
        self.assertEqual(answers([0, 3]), [1, 0])

    def test_new_object_each_time(self):
        self.assertEqual(answers([0, 3]), [1, 0])
        self.assertEqual(answers([5]), [1, -11])

    def test_whole_numbers_alone(self):
        answered = answers(EACH)
        self.assertIs(type(answered), list)
        self.assertEqual({type(number) for number in answered}, {int})

    def test_60_calls(self):
        calls = [begin(5)] + [action(i, i, BELOW) for i in range(5)] + [push(i, ABOVE) for i in range(5)]
        calls += [row(i % 5) for i in range(48)] + [CALM]
        self.assertEqual(len(calls), 60)
        answered = told(*calls)
        self.assertEqual(answered[:11], [[0]] + [[1]] * 10)
        for place in range(48):
            self.assertEqual(answered[11 + place], [5] + [4 if j == place % 5 else 2 for j in range(5)])
        self.assertEqual(answered[59], [5])

    def test_60_calls_with_5_quantities_that_all_act_on_all(self):
        made = plant(dense(5))
        loops = reference_loops(dense(5))
        pairs = [(j, i) for j in range(5) for i in range(5) if reference_idle(dense(5), j, i)]
        asked = {
            tuple(IDLES): [len(pairs)] + [number for pair in pairs for number in pair],
            tuple(LOOPS): counts(loops),
            tuple(loop(88)): loops[88],
            tuple(loop(89)): [-33],
            tuple(through(3)): counts([one for one in loops if 3 in one[1:]]),
            tuple(paths(3, 1)): counts(reference_paths(dense(5), 3, 1)),
            tuple(path(3, 1, 15)): reference_paths(dense(5), 3, 1)[15],
            tuple(path(3, 1, 16)): [-33],
            tuple(SETTLES): [1],
            tuple(feeds(4)): [5, 0, 1, 2, 3, 4],
            tuple(look(4)): [1] + dense(5)[4],
            tuple(STATE): [5, 1, 1, 1, 1, 1, 25],
            tuple(idle(4, 0)): [reference_idle(dense(5), 4, 0)],
            tuple(DET): [7],
            tuple(ALL): [-33],
            tuple(without(2, 2)): [7],
            tuple(row(2)): [-33],
        }
        self.assertEqual(len(made) + 2 * len(asked), 60)
        answered = told(*made, *asked, *asked)
        self.assertEqual(answered, [[0]] + [[1]] * 25 + list(asked.values()) * 2)

    def test_60_calls_of_the_slowest(self):
        # All terms say the same here, so every change is compared for each action.
        stairs = [[BELOW if j <= i else ABOVE for j in range(min(i + 2, 5))] + [1] * (3 - i) for i in range(5)]
        made = plant(stairs)
        answered = told(*made, *[IDLES] * (60 - len(made)))
        expected = [8, 0, 2, 0, 3, 0, 4, 1, 2, 1, 3, 1, 4, 2, 3, 2, 4]
        self.assertEqual(answered[len(made):], [expected] * (60 - len(made)))

    def test_60_calls_that_are_as_long_as_can_be(self):
        # Calls of four numbers alone make a list of 240, and no begin is among them.
        calls = flat(*[action(0, 0, 0), if_pushed(GREAT, GREAT, GREAT)] * 30)
        self.assertEqual(len(calls), 240)
        self.assertEqual(answers(calls), [1, -11] * 60)

        calls = flat(*[path(0, 0, 0), path(GREAT, GREAT, GREAT), path(0, 0, GREAT)] * 20)
        self.assertEqual(len(calls), 240)
        self.assertEqual(answers(calls), [1, -11] * 60)

    def test_begin_and_59_longest_calls_of_paths(self):
        made = plant(dense(5))
        calls = [*made, *[path(0, 4, k) for k in range(17)], *[path(4, 1, k) for k in range(17)]]
        self.assertEqual((len(calls), len(flat(*calls))), (60, 238))
        expected = reference_paths(dense(5), 0, 4) + [[-33]] + reference_paths(dense(5), 4, 1) + [[-33]]
        self.assertEqual(told(*calls)[len(made):], expected)

    def test_begin_and_59_longest_calls(self):
        calls = [begin(5)] + [action(k % 5, k // 5 % 5, k % 3) for k in range(59)]
        answered = told(*calls)
        was = {}
        for k in range(59):
            place = (k % 5, k // 5 % 5)
            self.assertEqual(answered[1 + k], [was.get(place, 1)])
            was[place] = k % 3


if __name__ == "__main__":
    unittest.main()
