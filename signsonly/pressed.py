"""The calls on one object: quantities in balance, how they act on one another, and their pushes."""

from signsonly.signs import ABOVE, BELOW, NONE, change, changes, determinant, idle_pairs, is_idle, is_sure, one_push
from signsonly.signs import outcome, settling, signed_loops, signed_paths, table_without, turned

NO_QUANTITY = -2
NOT_BEGUN = -11
NOT_RIGHT = -22
NOT_SURE_OR_NONE = -33

BEGIN = 0
MOST_QUANTITIES = 5


class Plant:
    """The quantities, none before a begin: table[i][j] is how j acts on i, pushes[i] is i's push."""

    def __init__(self):
        self.table = []
        self.pushes = []

    def begin(self, number):
        self.table = [[NONE] * number for quantity in range(number)]
        self.pushes = [NONE] * number

    def size(self):
        return len(self.pushes)

    def set_action(self, acting, upon, sign):
        before = self.table[upon][acting]
        self.table[upon][acting] = sign
        return before

    def set_push(self, quantity, sign):
        before = self.pushes[quantity]
        self.pushes[quantity] = sign
        return before

    def calm(self):
        pushed = [sign for sign in self.pushes if sign != NONE]
        self.pushes = [NONE] * self.size()
        return len(pushed)

    def turn(self, quantity):
        for other in range(self.size()):
            # How it acts on itself is turned about twice, so it stays.
            if other != quantity:
                self.table[other][quantity] = turned(self.table[other][quantity])
                self.table[quantity][other] = turned(self.table[quantity][other])
        self.pushes[quantity] = turned(self.pushes[quantity])

    def acting_on(self, quantity):
        return [other for other, acts in enumerate(self.table[quantity]) if acts != NONE]


def begin(plant, given):
    plant.begin(given[0])
    return [0]


def action(plant, given):
    return [plant.set_action(given[0], given[1], given[2])]


def push(plant, given):
    return [plant.set_push(given[0], given[1])]


def calm(plant, given):
    return [plant.calm()]


def turn(plant, given):
    plant.turn(given[0])
    return [0]


def det(plant, given):
    return [determinant(plant.table)]


def ends(plant, given):
    return [change(plant.table, determinant(plant.table), plant.pushes, given[0])]


def all_ends(plant, given):
    return [plant.size()] + changes(plant.table, plant.pushes)


def if_pushed(plant, given):
    pushes = one_push(plant.size(), given[0], given[1])
    return [change(plant.table, determinant(plant.table), pushes, given[2])]


def row(plant, given):
    return [plant.size()] + changes(plant.table, one_push(plant.size(), given[0], ABOVE))


def without(plant, given):
    return [determinant(table_without(plant.table, given[0], given[1]))]


def idle(plant, given):
    return [1 if is_idle(plant.table, outcome(plant.table), given[0], given[1]) else 0]


def idles(plant, given):
    pairs = idle_pairs(plant.table)
    told = [len(pairs)]
    for pair in pairs:
        told.extend(pair)
    return told


def counted(ways):
    """How many paths or loops these are, then how many of them are above, below."""
    way_signs = [sign for sign, quantities in ways]
    return [len(way_signs), way_signs.count(ABOVE), way_signs.count(BELOW)]


def chosen(ways, which):
    """The sign and the quantities of one of the paths or loops, if there is such a one."""
    if which >= len(ways):
        return [NOT_SURE_OR_NONE]
    way = ways[which]
    return [way[0]] + way[1]


def paths(plant, given):
    return counted(signed_paths(plant.table, given[0], given[1]))


def path(plant, given):
    return chosen(signed_paths(plant.table, given[0], given[1]), given[2])


def loops(plant, given):
    return counted(signed_loops(plant.table))


def loop(plant, given):
    return chosen(signed_loops(plant.table), given[0])


def through(plant, given):
    return counted([way for way in signed_loops(plant.table) if given[0] in way[1]])


def settles(plant, given):
    return [settling(plant.table)]


def feeds(plant, given):
    acting = plant.acting_on(given[0])
    return [len(acting)] + acting


def look(plant, given):
    return [plant.pushes[given[0]]] + plant.table[given[0]]


def state(plant, given):
    actions = sum([len(plant.acting_on(quantity)) for quantity in range(plant.size())])
    return [plant.size()] + plant.pushes + [actions]


# Of each call: what it does; what its numbers are, in order (n how many quantities, q a quantity,
# s a sign, k which one); whether it's refused where the determinant isn't sure.
CALLS = {
    0: (begin, "n", False),
    1: (action, "qqs", False),
    2: (push, "qs", False),
    3: (calm, "", False),
    4: (turn, "q", False),
    5: (det, "", False),
    6: (ends, "q", True),
    7: (all_ends, "", True),
    8: (if_pushed, "qsq", True),
    9: (row, "q", True),
    10: (without, "qq", False),
    11: (idle, "qq", False),
    12: (idles, "", False),
    13: (paths, "qq", False),
    14: (path, "qqk", False),
    15: (loops, "", False),
    16: (loop, "k", False),
    17: (through, "q", False),
    18: (settles, "", False),
    19: (feeds, "q", False),
    20: (look, "q", False),
    21: (state, "", False),
}


def is_above(letters, given, letter, most):
    """Whether one of the numbers that have this letter is greater than the most it may be."""
    return any([value > most for kind, value in zip(letters, given) if kind == letter])


def refusal(plant, number, given):
    """The refusal that's due, the one named first if there are several, or 0 if there's none."""
    letters = CALLS[number][1]
    if number == BEGIN:
        return 0 if 1 <= given[0] <= MOST_QUANTITIES else NOT_RIGHT
    if plant.size() == 0:
        return NOT_BEGUN
    if is_above(letters, given, "q", plant.size() - 1):
        return NO_QUANTITY
    if is_above(letters, given, "s", ABOVE):
        return NOT_RIGHT
    if CALLS[number][2] and not is_sure(determinant(plant.table)):
        return NOT_SURE_OR_NONE
    return 0


def answer(plant, number, given):
    """The numbers that one call answers."""
    refused = refusal(plant, number, given)
    if refused != 0:
        return [refused]
    called = CALLS[number][0]
    return called(plant, given)


def answers(calls):
    """For each call, in order: how many numbers it answers, then these."""
    plant = Plant()
    told = []
    at = 0
    while at < len(calls):
        number = calls[at]
        behind = at + 1 + len(CALLS[number][1])
        numbers = answer(plant, number, calls[at + 1:behind])
        told.append(len(numbers))
        told.extend(numbers)
        at = behind
    return told
