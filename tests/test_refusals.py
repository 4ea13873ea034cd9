"""The refusals: each one, their order, and that they change nothing."""

import unittest

from tests.helper import ABOVE, ALL, BELOW, CALM, DET, GREAT, IDLES, LOOPS, NONE, SETTLES, STATE
from tests.helper import action, begin, ends, feeds, idle, if_pushed, kept, look, loop, path, paths, plant, push, row
from tests.helper import state_after, through, told, told_in_parts, told_of, turn, weakened, without

OTHERS = {
    "action": action(0, 0, 0), "push": push(0, 0), "calm": CALM, "turn": turn(0), "det": DET, "ends": ends(0),
    "all": ALL, "if": if_pushed(0, 0, 0), "row": row(0), "without": without(0, 0), "idle": idle(0, 0), "idles": IDLES,
    "paths": paths(0, 0), "path": path(0, 0, 0), "loops": LOOPS, "loop": loop(0), "through": through(0),
    "settles": SETTLES, "feeds": feeds(0), "look": look(0), "state": STATE,
}
SURE = [[BELOW, ABOVE], [BELOW, BELOW]]
UNSURE = [[BELOW, ABOVE], [ABOVE, BELOW]]


class BeforeABegin(unittest.TestCase):
    def test_every_call_but_begin_is_among_them(self):
        self.assertEqual([call[0] for call in OTHERS.values()], list(range(1, 22)))

    def test_each_call(self):
        for name, call in OTHERS.items():
            self.assertEqual(told(call), [[-11]], name)

    def test_ahead_of_every_other_refusal(self):
        for name, call in OTHERS.items():
            great = [call[0]] + [GREAT] * (len(call) - 1)
            self.assertEqual(told(great), [[-11]], name)

    def test_after_a_refused_begin(self):
        for n in (0, 6, GREAT):
            for name, call in OTHERS.items():
                self.assertEqual(told(begin(n), call), [[-22], [-11]], name)

    def test_all_in_one_list(self):
        self.assertEqual(told(*OTHERS.values(), begin(6), *OTHERS.values()), [[-11]] * 21 + [[-22]] + [[-11]] * 21)

    def test_no_longer_after_a_begin(self):
        for name, call in OTHERS.items():
            answered = told(call, begin(1), action(0, 0, BELOW), call)
            self.assertEqual(answered[:3], [[-11], [0], [1]], name)
            self.assertGreaterEqual(answered[3][0], 0, name)


class Begin(unittest.TestCase):
    def test_not_1_to_5(self):
        for n in (0, 6, 7, 255, 256, 65536, GREAT):
            self.assertEqual(told(begin(n)), [[-22]])

    def test_refused_leaves_what_was_there(self):
        made = plant(SURE, [ABOVE, BELOW])
        for n in (0, 6, GREAT):
            self.assertEqual(state_after(2, *made, begin(n)), state_after(2, *made))
            self.assertEqual(told(*made, begin(n), ALL)[-2:], [[-22], told(*made, ALL)[-1]])


class NoSuchQuantity(unittest.TestCase):
    def test_each_place_of_each_call(self):
        for n in range(1, 6):
            for bad in (n, n + 1, GREAT):
                calls = [
                    action(bad, 0, 0), action(0, bad, 0), action(bad, bad, 0), push(bad, 0), turn(bad), ends(bad),
                    if_pushed(bad, 0, 0), if_pushed(0, 0, bad), if_pushed(bad, 0, bad), row(bad), without(bad, 0),
                    without(0, bad), without(bad, bad), idle(bad, 0), idle(0, bad), idle(bad, bad), paths(bad, 0),
                    paths(0, bad), paths(bad, bad), path(bad, 0, 0), path(0, bad, 0), path(bad, bad, 0), through(bad),
                    feeds(bad), look(bad),
                ]
                self.assertEqual(told_in_parts(weakened(n), None, *calls), [[-2]] * len(calls), (n, bad))

    def test_last_quantity_is_there(self):
        for n in range(1, 6):
            last = n - 1
            calls = [
                idle(last, 0), idle(0, last), paths(last, 0), paths(0, last), path(last, last, 0), through(last),
                feeds(last), look(last),
            ]
            for answered in told_of(weakened(n), None, *calls):
                self.assertGreaterEqual(answered[0], 0)


class NotRight(unittest.TestCase):
    def test_sign_above_2(self):
        for bad in (3, 4, 7, GREAT):
            calls = [action(0, 1, bad), push(1, bad), if_pushed(1, bad, 0)]
            self.assertEqual(told_of(SURE, None, *calls), [[-22]] * 3)

    def test_each_sign_up_to_2_is_right(self):
        for s in range(3):
            calls = [if_pushed(0, s, 1), push(1, s), action(0, 1, s)]
            for answered in told_of(SURE, None, *calls):
                self.assertGreaterEqual(answered[0], 0)


class NotSure(unittest.TestCase):
    def test_each_call_that_needs_it(self):
        none = [[NONE, ABOVE], [NONE, ABOVE]]
        for table in (UNSURE, none):
            calls = [ends(0), ends(1), ALL, row(0), row(1)]
            calls += [if_pushed(i, s, j) for i in range(2) for s in range(3) for j in range(2)]
            self.assertEqual(told_of(table, [ABOVE, BELOW], *calls), [[-33]] * len(calls))

    def test_idle_paths_loops_and_the_like_don_t_need_it(self):
        calls = [idle(0, 1), IDLES, paths(0, 1), path(0, 1, 0), LOOPS, loop(0), through(1), SETTLES, feeds(1), look(1), STATE]
        expected = [[0], [0], [1, 1, 0], [2, 0, 1], [3, 1, 2], [0, 0], [2, 1, 1], [3], [2, 0, 1], [1, 2, 0], [2, 1, 1, 4]]
        self.assertEqual(told_of(UNSURE, None, *calls), expected)

    def test_the_others_don_t_need_it(self):
        calls = [DET, without(0, 0), push(0, 0), turn(1), action(0, 0, 0), CALM]
        self.assertEqual(told_of(UNSURE, None, *calls), [[7], [1], [1], [0], [0], [1]])

    def test_sure_either_way(self):
        self.assertEqual(told_of(SURE, None, DET, ends(0)), [[4], [2]])
        self.assertEqual(told_of([[BELOW, NONE], [NONE, ABOVE]], None, DET, ends(0)), [[1], [2]])


class NoSuchPathOrLoop(unittest.TestCase):
    def test_first_behind_the_last_and_greater_ones(self):
        # Whether the determinant is sure or not.
        for table in (SURE, UNSURE):
            for k in (1, 2, 255, 256, 65536, GREAT):
                calls = [path(0, 0, k), path(0, 1, k), path(1, 0, k), path(1, 1, k)]
                self.assertEqual(told_of(table, None, *calls), [[-33]] * 4)
            calls = [loop(k) for k in (3, 4, 255, 256, 65536, GREAT)]
            self.assertEqual(told_of(table, None, loop(2), *calls), [[0, 1]] + [[-33]] * 6)

    def test_there_is_none_at_all(self):
        self.assertEqual(told(begin(2), path(0, 1, 0), path(1, 0, 0), loop(0)), [[0], [-33], [-33], [-33]])


class Order(unittest.TestCase):
    def test_no_such_quantity_is_ahead_of_no_such_path(self):
        for table in (SURE, UNSURE):
            for k in (0, 1, GREAT):
                calls = [path(2, 0, k), path(0, 2, k), path(2, 2, k), path(GREAT, GREAT, k)]
                self.assertEqual(told_of(table, None, *calls), [[-2]] * 4)

    def test_no_such_quantity_is_ahead(self):
        for table in (SURE, UNSURE):
            calls = [
                action(2, 0, 3), action(0, 2, 3), push(2, 3), ends(2), row(2),
                if_pushed(2, 3, 0), if_pushed(0, 3, 2), if_pushed(2, 0, 0), if_pushed(0, 0, 2),
            ]
            self.assertEqual(told_of(table, None, *calls), [[-2]] * len(calls))

    def test_not_right_is_ahead_of_not_sure(self):
        self.assertEqual(told_of(UNSURE, None, if_pushed(0, 3, 1), if_pushed(0, 2, 1)), [[-22], [-33]])


class NothingChanges(unittest.TestCase):
    def test_after_each_refusal(self):
        refused = [
            begin(0), begin(6), action(2, 0, 0), action(0, 2, 0), action(0, 1, 3), push(2, 0), push(0, 3), turn(2),
            ends(2), ends(0), ALL, if_pushed(0, 3, 0), if_pushed(0, 0, 2), if_pushed(0, 0, 0), row(0), row(2),
            without(2, 0), without(0, 2), idle(2, 0), idle(0, 2), paths(2, 0), paths(0, 2), path(2, 0, 0), path(0, 2, 0),
            path(0, 1, 1), path(0, 0, GREAT), loop(3), loop(GREAT), through(2), feeds(2), look(2),
        ]
        seen = [look(0), look(1), STATE]
        made = plant(UNSURE, [ABOVE, BELOW])
        expected = [0, 2, 2, 0, 2, 0]
        for call in refused:
            answered = told(*made, call)[-1]
            self.assertEqual(len(answered), 1, call)
            self.assertLess(answered[0], 0, call)
            self.assertEqual(state_after(2, *made, call), expected, call)
            self.assertEqual(told(*made, call, *seen)[-3:], [[2, 0, 2], [0, 2, 0], [2, 2, 0, 4]], call)
        self.assertEqual(state_after(2, *made, *refused), expected)

    def test_great_numbers_at_every_place(self):
        made = plant(SURE, [ABOVE, BELOW])
        places = {
            -22: [begin(GREAT), action(0, 1, GREAT), push(0, GREAT), if_pushed(0, GREAT, 1)],
            -2: [
                action(GREAT, 0, 0), action(0, GREAT, 0), action(GREAT, GREAT, GREAT), push(GREAT, 0),
                push(GREAT, GREAT), turn(GREAT), ends(GREAT), if_pushed(GREAT, 0, 0), if_pushed(0, 0, GREAT),
                if_pushed(GREAT, GREAT, GREAT), row(GREAT), without(GREAT, 0), without(0, GREAT),
                without(GREAT, GREAT), idle(GREAT, 0), idle(0, GREAT), idle(GREAT, GREAT), paths(GREAT, 0),
                paths(0, GREAT), paths(GREAT, GREAT), path(GREAT, 0, 0), path(0, GREAT, 0), path(GREAT, GREAT, GREAT),
                through(GREAT), feeds(GREAT), look(GREAT),
            ],
            -33: [path(0, 0, GREAT), path(0, 1, GREAT), path(1, 0, GREAT), loop(GREAT)],
        }
        for refusal, calls in places.items():
            for call in calls:
                self.assertEqual(told(*made, call)[-1], [refusal], call)
                self.assertEqual(state_after(2, *made, call), state_after(2, *made), call)


class KeptIsSeen(unittest.TestCase):
    """What the tests above lean on: the calls that show what is kept do show it."""

    def test_kept(self):
        self.assertEqual(state_after(2, *plant(SURE, [ABOVE, BELOW])), [0, 2, 0, 0, 2, 0])
        self.assertEqual(len(kept(2)), 6)


if __name__ == "__main__":
    unittest.main()
