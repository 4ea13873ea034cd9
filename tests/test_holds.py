"""Promise 5: what holds, over many plants."""

import random
import unittest
from fractions import Fraction

from tests.helper import ABOVE, ALL, BELOW, DET, LOOPS, NONE, SETTLES
from tests.helper import each_table, if_pushed, paths, random_table, row, sure_tables, told_in_parts, told_of, turn
from tests.helper import weakened, with_actions

ABOUT = {1: 4, 2: 2, 4: 1, 7: 7}


def matrix_of(table, magnitudes):
    return [[(sign - 1) * magnitudes[i][j] for j, sign in enumerate(signs)] for i, signs in enumerate(table)]


def balanced(table, pushes, magnitudes):
    """The changes by these magnitudes, n for each quantity's row and one for its push, and the determinant.

    Of each quantity the changes of all that act on it, by how much they do, and its push come to nothing together;
    that is solved straight, row against row. Without one balance the changes are None.
    """
    n = len(table)
    rows = [line + [-(pushes[i] - 1) * magnitudes[i][n]] for i, line in enumerate(matrix_of(table, magnitudes))]
    whole = Fraction(1)
    for place in range(n):
        fit = [i for i in range(place, n) if rows[i][place] != 0]
        if not fit:
            return None, Fraction(0)
        whole *= rows[fit[0]][place] * (1 if fit[0] == place else -1)
        rows[place], rows[fit[0]] = rows[fit[0]], rows[place]
        rows[place] = [value / rows[place][place] for value in rows[place]]
        for i in range(n):
            if i != place:
                factor = rows[i][place]
                rows[i] = [a - factor * b for a, b in zip(rows[i], rows[place])]
    return [line[n] for line in rows], whole


def as_set(value):
    return 4 if value > 0 else 1 if value < 0 else 2


class Magnitudes(unittest.TestCase):
    """What's told of a change is just what it may be by some magnitudes; sure, there's a balance by all."""

    def drawn(self, source, n):
        return [[Fraction(2) ** source.randint(-9, 9) for k in range(n + 1)] for i in range(n)]

    def none_between(self, table, pushes, j, high, low):
        """Magnitudes by which j doesn't change, on the way from some by which it rises to some by which it falls."""
        now = high
        for i in range(len(table)):
            for k in range(len(table) + 1):
                then = [list(line) for line in now]
                then[i][k] = low[i][k]
                here, whole = balanced(table, pushes, now)
                there, whole_there = balanced(table, pushes, then)
                if there[j] <= 0:
                    # Change times determinant goes straight with one magnitude, so it's none at a fraction.
                    above, below = here[j] * whole, there[j] * whole_there
                    then[i][k] = now[i][k] + (then[i][k] - now[i][k]) * above / (above - below)
                    return then
                now = then
        raise AssertionError("it rises throughout")

    def check(self, source, table, pushes, told_sets):
        """Compares what's told with what comes up; says how many changes came up on both sides."""
        n = len(table)
        seen = [{} for j in range(n)]
        for attempt in range(80 if 7 in told_sets else 8):
            magnitudes = self.drawn(source, n)
            changes, whole = balanced(table, pushes, magnitudes)
            self.assertIsNotNone(changes, table)
            for j in range(n):
                seen[j].setdefault(as_set(changes[j]), magnitudes)
        for j, told_set in enumerate(told_sets):
            if told_set == 7:
                still = self.none_between(table, pushes, j, seen[j][4], seen[j][1])
                self.assertTrue(all(one > 0 for line in still for one in line))
                self.assertEqual(balanced(table, pushes, still)[0][j], 0)
            else:
                self.assertEqual(list(seen[j]), [told_set], (table, pushes, j))
        return told_sets.count(7)

    def test_all(self):
        source = random.Random(5)
        tables = sure_tables(100)
        unsure = [self.check(source, table, pushes, told_of(table, pushes, ALL)[0][1:]) for table, pushes in tables]
        self.assertGreater(sum(unsure), 20)

    def test_row_and_if(self):
        source = random.Random(6)
        unsure = 0
        for table, pushes in sure_tables(40):
            n = len(table)
            for i in range(n):
                answered = told_of(table, pushes, row(i), *[if_pushed(i, BELOW, j) for j in range(n)])
                up = [ABOVE if k == i else NONE for k in range(n)]
                down = [BELOW if k == i else NONE for k in range(n)]
                unsure += self.check(source, table, up, answered[0][1:])
                self.check(source, table, down, [one[0] for one in answered[1:]])
        self.assertGreater(unsure, 20)

    def test_det(self):
        source = random.Random(8)
        for number in range(60):
            table = random_table(source, 1 + number % 5)
            signs = set()
            for attempt in range(60):
                signs.add(as_set(balanced(table, [NONE] * len(table), self.drawn(source, len(table)))[1]))
            self.assertIn(signs, {1: [{1}], 2: [{2}], 4: [{4}], 7: [{1, 4}, {1, 2, 4}]}[told_of(table, None, DET)[0][0]])


class PathsSay(unittest.TestCase):
    """Where each quantity weakens itself and there are no other loops, row says what the paths say."""

    def check(self, table):
        n = len(table)
        pairs = [(u, v) for u in range(n) for v in range(n)]
        calls = [DET, LOOPS] + [row(u) for u in range(n)] + [paths(u, v) for u, v in pairs]
        answered = told_in_parts(table, None, *calls)
        self.assertEqual(answered[:2], [[1 if n % 2 else 4], [n, 0, n]], table)
        said = []
        for number, above, below in answered[2 + n:]:
            self.assertEqual(number, above + below)
            said.append(7 if above and below else 4 if above else 1 if below else 2)
        self.assertEqual([one for line in answered[2:2 + n] for one in line[1:]], said, table)
        return said

    def test_all_of_one_and_two_and_three_in_their_order(self):
        self.check(weakened(1))
        for s in range(3):
            self.check(with_actions(weakened(2), (0, 1, s)))
            self.check(with_actions(weakened(2), (1, 0, s)))
        for a in range(3):
            for b in range(3):
                for c in range(3):
                    self.check(with_actions(weakened(3), (0, 1, a), (1, 2, b), (0, 2, c)))

    def test_drawn_plants(self):
        source = random.Random(53)
        seen = []
        for number in range(120):
            n = 2 + number % 4
            order = source.sample(range(n), n)
            actions = [
                (order[a], order[b], source.choice((BELOW, NONE, ABOVE))) for b in range(n) for a in range(b)
            ]
            seen += self.check(with_actions(weakened(n), *actions))
        self.assertEqual(set(seen), {1, 2, 4, 7})

    def test_all_that_may_act(self):
        for n in range(2, 6):
            for sign in (BELOW, ABOVE):
                self.check(with_actions(weakened(n), *[(a, b, sign) for b in range(n) for a in range(b)]))


class Settled(unittest.TestCase):
    """Where settles is 0, det is above alone with an even number of quantities, below alone with an odd one."""

    def check(self, table):
        answered = told_of(table, None, SETTLES, DET)
        if answered[0] == [0]:
            self.assertEqual(answered[1], [1 if len(table) % 2 else 4], table)
            return 1
        return 0

    def test_all_tables_of_one_and_two_and_three(self):
        self.assertEqual(sum(self.check(table) for table in each_table(1)), 1)
        self.assertEqual(sum(self.check(table) for table in each_table(2)), 11)
        of_three = [table for number, table in enumerate(each_table(3)) if number % 4 == 0]
        self.assertGreater(sum(self.check(table) for table in of_three), 20)

    def test_drawn_plants(self):
        source = random.Random(59)
        found = {4: 0, 5: 0}
        for number in range(900):
            n = 4 + number % 2
            table = random_table(source, n, (NONE, NONE, NONE, NONE, BELOW, ABOVE))
            for i in range(n):
                table[i][i] = source.choice((BELOW, BELOW, NONE))
            found[n] += self.check(table)
        self.assertGreater(min(found.values()), 10)

    def test_chains_of_prey(self):
        # Only one weakens itself, at one end: all the others are held by those beside them.
        for n in range(1, 6):
            chain = [(j, j + 1, ABOVE) for j in range(n - 1)] + [(j + 1, j, BELOW) for j in range(n - 1)]
            table = with_actions([[NONE] * n for i in range(n)], (0, 0, BELOW), *chain)
            self.assertEqual(self.check(table), 1)


class ToldTheOtherWayRound(unittest.TestCase):
    """Told the other way round by turn, a quantity changes the other way round, and no other does."""

    def about(self, changes, turned):
        """The answer of all or row with the turned quantity's set turned about."""
        return [changes[0]] + [ABOUT[one] if j == turned else one for j, one in enumerate(changes[1:])]

    def test_all(self):
        for table, pushes in sure_tables(120):
            for i in range(len(table)):
                before, zero, after = told_of(table, pushes, ALL, turn(i), ALL)
                self.assertEqual((zero, after), ([0], self.about(before, i)), (table, pushes, i))

    def test_row_of_the_others(self):
        for table, pushes in sure_tables(80):
            n = len(table)
            rows = [row(p) for p in range(n)]
            for i in range(n):
                answered = told_of(table, pushes, *rows, turn(i), *rows)
                for p in range(n):
                    if p != i:
                        self.assertEqual(answered[n + 1 + p], self.about(answered[p], i), (table, i, p))

    def test_row_of_the_quantity_itself(self):
        # Its push up is, as it was told before, a push down: so told, the same push has the same end.
        for table, pushes in sure_tables(80):
            n = len(table)
            for i in range(n):
                downs = [if_pushed(i, BELOW, j) for j in range(n)]
                answered = told_of(table, pushes, row(i), turn(i), *downs, row(i))
                as_before = [n] + [one[0] for one in answered[2:2 + n]]
                self.assertEqual(as_before, self.about(answered[0], i), (table, i))
                upwards = [n] + [ABOUT[one] for one in as_before[1:]]
                self.assertEqual(answered[-1], upwards, (table, i))

    def test_det_settles_and_loops_are_the_same(self):
        source = random.Random(67)
        for number in range(100):
            table = random_table(source, 1 + number % 5)
            for i in range(len(table)):
                answered = told_of(table, None, DET, SETTLES, LOOPS, turn(i), DET, SETTLES, LOOPS)
                self.assertEqual(answered[:3], answered[4:], (table, i))


if __name__ == "__main__":
    unittest.main()
