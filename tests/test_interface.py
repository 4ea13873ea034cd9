"""The interface: one list in, one list out, nothing changed and nothing kept."""

import unittest

from signsonly.pressed import answers
from tests.helper import ABOVE, ALL, BELOW, CALM, DET, GREAT
from tests.helper import action, begin, ends, if_pushed, push, row, told, turn, without


def flat(*calls):
    return [number for call in calls for number in call]


EACH = flat(
    begin(2), action(0, 0, BELOW), action(1, 0, BELOW), action(0, 1, ABOVE), push(0, ABOVE), DET, ends(1), ALL,
    if_pushed(1, ABOVE, 0), row(1), without(0, 1), turn(1), ALL, CALM, begin(9), ends(7),
)
EACH_TOLD = [
    1, 0, 1, 1, 1, 1, 1, 1, 1, 1, 1, 4, 1, 4, 3, 2, 2, 4,
    1, 1, 3, 2, 1, 4, 1, 2, 1, 0, 3, 2, 2, 1, 1, 1, 1, -22, 1, -2,
]


class Interface(unittest.TestCase):
    def test_each_call_by_its_number(self):
        self.assertEqual(answers(EACH), EACH_TOLD)

    def test_counts_ahead_of_each_answer(self):
        self.assertEqual(answers([0, 5]), [1, 0])
        self.assertEqual(answers([5]), [1, -11])
        self.assertEqual(answers([0, 1, 1, 0, 0, 0, 7]), [1, 0, 1, 1, 2, 1, 2])

    def test_list_handed_in_is_the_same_afterwards(self):
        calls = list(EACH)
        answers(calls)
        self.assertEqual(calls, EACH)

    def test_list_handed_in_is_not_changed_for_a_while_either(self):
        class Watched(list):
            def refuse(self, *given):
                raise AssertionError("changed")
            append = extend = insert = pop = remove = clear = sort = reverse = refuse
            __setitem__ = __delitem__ = __iadd__ = __imul__ = refuse

        self.assertEqual(answers(Watched(EACH)), EACH_TOLD)

    def test_second_time_gives_the_same(self):
        calls = list(EACH)
        self.assertEqual(answers(calls), answers(calls))

    def test_answer_is_a_list_of_its_own(self):
        first = answers([0, 3])
        first.append(9)
        self.assertEqual(answers([0, 3]), [1, 0])

    def test_new_object_each_time(self):
        self.assertEqual(answers([0, 3]), [1, 0])
        self.assertEqual(answers([5]), [1, -11])

    def test_whole_numbers_alone(self):
        answered = answers(EACH)
        self.assertIs(type(answered), list)
        self.assertEqual({type(number) for number in answered}, {int})

    def test_60_calls(self):
        calls = [begin(5)] + [action(i, i, BELOW) for i in range(5)] + [push(i, ABOVE) for i in range(5)]
        calls += [row(i % 5) for i in range(48)] + [CALM]
        self.assertEqual(len(calls), 60)
        answered = told(*calls)
        self.assertEqual(answered[:11], [[0]] + [[1]] * 10)
        for place in range(48):
            self.assertEqual(answered[11 + place], [5] + [4 if j == place % 5 else 2 for j in range(5)])
        self.assertEqual(answered[59], [5])

    def test_60_calls_that_are_as_long_as_can_be(self):
        # Calls of four numbers alone make a list of 240, and no begin is among them.
        calls = flat(*[action(0, 0, 0), if_pushed(GREAT, GREAT, GREAT)] * 30)
        self.assertEqual(len(calls), 240)
        self.assertEqual(answers(calls), [1, -11] * 60)

    def test_begin_and_59_longest_calls(self):
        calls = [begin(5)] + [action(k % 5, k // 5 % 5, k % 3) for k in range(59)]
        answered = told(*calls)
        was = {}
        for k in range(59):
            place = (k % 5, k // 5 % 5)
            self.assertEqual(answered[1 + k], [was.get(place, 1)])
            was[place] = k % 3


if __name__ == "__main__":
    unittest.main()
