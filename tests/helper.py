"""Calls by their names, their answers one by one, and the document's words written out plainly."""

from itertools import permutations

from signsonly.pressed import answers

BELOW, NONE, ABOVE = 0, 1, 2
GREAT = 4294967295

CALM = [3]
DET = [5]
ALL = [7]


def begin(n):
    return [0, n]


def action(j, i, s):
    return [1, j, i, s]


def push(i, s):
    return [2, i, s]


def turn(i):
    return [4, i]


def ends(j):
    return [6, j]


def if_pushed(i, s, j):
    return [8, i, s, j]


def row(i):
    return [9, i]


def without(j, i):
    return [10, j, i]


def told(*calls):
    """What each of the calls answers, one list a call."""
    handed_in = [number for call in calls for number in call]
    if not 1 <= len(calls) <= 60 or len(handed_in) > 240:
        raise AssertionError("no such list is handed in")
    flat = answers(handed_in)
    split = []
    at = 0
    while at < len(flat):
        split.append(flat[at + 1:at + 1 + flat[at]])
        at += 1 + flat[at]
    if len(split) != len(calls) or at != len(flat):
        raise AssertionError(f"{len(calls)} calls, but answered is {flat}")
    return split


def plant(table, pushes=None):
    """The calls that make a plant: table[i][j] is how j acts on i."""
    made = [begin(len(table))]
    for i, signs in enumerate(table):
        made += [action(j, i, s) for j, s in enumerate(signs) if s != NONE]
    made += [push(i, s) for i, s in enumerate(pushes or []) if s != NONE]
    return made


def told_of(table, pushes, *calls):
    """What the calls answer on a plant that is made first."""
    made = plant(table, pushes)
    return told(*made, *calls)[len(made):]


def kept(n):
    """Calls whose answers are all that is kept: each action, then each push (they clear it, so they come last)."""
    return [action(j, i, NONE) for i in range(n) for j in range(n)] + [push(i, NONE) for i in range(n)]


def state_after(n, *calls):
    """Each action and each push, as they are after the calls."""
    return [answer[0] for answer in told(*calls, *kept(n))[len(calls):]]


def reference_det(table):
    """The determinant's set by all terms, none left out."""
    n = len(table)
    signs = []
    for taken in permutations(range(n)):
        product = 1
        for i in range(n):
            product *= table[i][taken[i]] - 1
        pairs = [(a, b) for b in range(n) for a in range(b) if taken[a] > taken[b]]
        signs.append(-product if len(pairs) % 2 else product)
    above, below = 1 in signs, -1 in signs
    if above and below:
        return 7
    return 4 if above else 1 if below else 2


def reference_change(table, pushes, j):
    whole = reference_det(table)
    replaced = [[2 - pushes[i] if k == j else s for k, s in enumerate(signs)] for i, signs in enumerate(table)]
    found = reference_det(replaced)
    return {1: 4, 2: 2, 4: 1, 7: 7}[found] if whole == 1 else found
