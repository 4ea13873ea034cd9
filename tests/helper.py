"""Calls by their names, their answers one by one, and the document's words written out plainly."""

from itertools import permutations, product
from random import Random

from signsonly.pressed import answers

BELOW, NONE, ABOVE = 0, 1, 2
GREAT = 4294967295

CALM = [3]
DET = [5]
ALL = [7]
IDLES = [12]
LOOPS = [15]
SETTLES = [18]
STATE = [21]


def begin(n):
    return [0, n]


def action(j, i, s):
    return [1, j, i, s]


def push(i, s):
    return [2, i, s]


def turn(i):
    return [4, i]


def ends(j):
    return [6, j]


def if_pushed(i, s, j):
    return [8, i, s, j]


def row(i):
    return [9, i]


def without(j, i):
    return [10, j, i]


def idle(j, i):
    return [11, j, i]


def paths(u, v):
    return [13, u, v]


def path(u, v, k):
    return [14, u, v, k]


def loop(k):
    return [16, k]


def through(i):
    return [17, i]


def feeds(i):
    return [19, i]


def look(i):
    return [20, i]


def told(*calls):
    """What each of the calls answers, one list a call."""
    handed_in = [number for call in calls for number in call]
    if not 1 <= len(calls) <= 60 or len(handed_in) > 240:
        raise AssertionError("no such list is handed in")
    flat = answers(handed_in)
    split = []
    at = 0
    while at < len(flat):
        split.append(flat[at + 1:at + 1 + flat[at]])
        at += 1 + flat[at]
    if len(split) != len(calls) or at != len(flat):
        raise AssertionError(f"{len(calls)} calls, but answered is {flat}")
    return split


def plant(table, pushes=None):
    """The calls that make a plant: table[i][j] is how j acts on i."""
    made = [begin(len(table))]
    for i, signs in enumerate(table):
        made += [action(j, i, s) for j, s in enumerate(signs) if s != NONE]
    made += [push(i, s) for i, s in enumerate(pushes or []) if s != NONE]
    return made


def told_of(table, pushes, *calls):
    """What the calls answer on a plant that is made first."""
    made = plant(table, pushes)
    return told(*made, *calls)[len(made):]


def told_in_parts(table, pushes, *calls):
    """The same for calls that may be more than one list holds: the plant is made anew for each part of them."""
    room = 60 - len(plant(table, pushes))
    numbers = 240 - sum(len(call) for call in plant(table, pushes))
    size = min(room, numbers // 4)
    split = []
    for at in range(0, len(calls), size):
        split += told_of(table, pushes, *calls[at:at + size])
    return split


def kept(n):
    """Calls whose answers are all that is kept: each action, then each push (they clear it, so they come last)."""
    return [action(j, i, NONE) for i in range(n) for j in range(n)] + [push(i, NONE) for i in range(n)]


def state_after(n, *calls):
    """Each action and each push, as they are after the calls."""
    return [answer[0] for answer in told(*calls, *kept(n))[len(calls):]]


def each_table(n):
    """Every table of n quantities."""
    for signs in product(range(3), repeat=n * n):
        yield [list(signs[i * n:i * n + n]) for i in range(n)]


def random_table(source, n, signs=(BELOW, NONE, NONE, ABOVE)):
    return [[source.choice(signs) for j in range(n)] for i in range(n)]


def nothing(n):
    """Nothing acts."""
    return [[NONE] * n for i in range(n)]


def weakened(n):
    """Each quantity weakens itself, and nothing else acts."""
    return [[BELOW if i == j else NONE for j in range(n)] for i in range(n)]


def dense(n):
    """All act on all, some above, some below."""
    return [[ABOVE if (2 * i + j * j) % 3 == 0 else BELOW for j in range(n)] for i in range(n)]


def with_actions(table, *actions):
    """A copy of the table in which each j of the (j, i, s) acts on i by s."""
    copy = [list(signs) for signs in table]
    for j, i, s in actions:
        copy[i][j] = s
    return copy


def round_of(*quantities):
    """The actions by which each of the quantities acts above on the next one, the last on the first."""
    return [(j, i, ABOVE) for j, i in zip(quantities, quantities[1:] + quantities[:1])]


def reference_det(table):
    """The determinant's set by all terms, none left out."""
    n = len(table)
    signs = []
    for taken in permutations(range(n)):
        sign = 1
        for i in range(n):
            sign *= table[i][taken[i]] - 1
        pairs = [(a, b) for b in range(n) for a in range(b) if taken[a] > taken[b]]
        signs.append(-sign if len(pairs) % 2 else sign)
    above, below = 1 in signs, -1 in signs
    if above and below:
        return 7
    return 4 if above else 1 if below else 2


def sure_tables(count):
    """Tables of 1 to 5 quantities, drawn the same each time, whose determinant is sure, each with pushes."""
    source = Random(61)
    found = []
    while len(found) < count:
        table = random_table(source, 1 + len(found) % 5)
        if reference_det(table) in (1, 4):
            found.append((table, [source.choice((BELOW, NONE, ABOVE)) for i in table]))
    return found


def reference_change(table, pushes, j):
    whole = reference_det(table)
    replaced = [[2 - pushes[i] if k == j else s for k, s in enumerate(signs)] for i, signs in enumerate(table)]
    found = reference_det(replaced)
    return {1: 4, 2: 2, 4: 1, 7: 7}[found] if whole == 1 else found


def reference_idle(table, j, i):
    n = len(table)
    other = with_actions(table, (j, i, NONE))
    if table[i][j] == NONE or reference_det(other) != reference_det(table):
        return 0
    if reference_det(table) in (1, 4):
        for pushed in range(n):
            pushes = [ABOVE if k == pushed else NONE for k in range(n)]
            for k in range(n):
                if reference_change(table, pushes, k) != reference_change(other, pushes, k):
                    return 0
    return 1


def reference_walks(table, closed):
    """Every row of quantities, none twice, of which each acts on the next (and the last on the first, if closed)."""
    found = []
    for length in range(1, len(table) + 1):
        for row_of in permutations(range(len(table)), length):
            steps = list(zip(row_of, row_of[1:])) + ([(row_of[-1], row_of[0])] if closed else [])
            below = sum(table[i][j] == BELOW for j, i in steps)
            if all(table[i][j] != NONE for j, i in steps):
                found.append([BELOW if below % 2 else ABOVE] + list(row_of))
    return sorted(found, key=lambda one: "".join(str(quantity) for quantity in one[1:]))


def reference_paths(table, u, v):
    """A sign, then the quantities, for each path in order."""
    return [one for one in reference_walks(table, False) if one[1] == u and one[-1] == v]


def reference_loops(table):
    """A sign, then the quantities, for each loop in order."""
    return [one for one in reference_walks(table, True) if one[1] == min(one[1:])]


def counts(walks):
    """How many there are, how many of them are above, below."""
    return [len(walks), sum(one[0] == ABOVE for one in walks), sum(one[0] == BELOW for one in walks)]
