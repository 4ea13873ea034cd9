"""The calls on one object: quantities in balance, how they act on one another, and their pushes."""

from signsonly.signs import ABOVE, NONE, change, determinant, is_sure, turned, with_place

NO_QUANTITY = -2
NOT_BEGUN = -11
NOT_RIGHT = -22
NOT_SURE = -33

BEGIN = 0
MOST_QUANTITIES = 5


class Plant:
    """The quantities, none before a begin: table[i][j] is how j acts on i, pushes[i] is i's push."""

    def __init__(self):
        self.table = []
        self.pushes = []

    def begin(self, number):
        self.table = [[NONE] * number for quantity in range(number)]
        self.pushes = [NONE] * number

    def size(self):
        return len(self.pushes)

    def set_action(self, acting, upon, sign):
        before = self.table[upon][acting]
        self.table[upon][acting] = sign
        return before

    def set_push(self, quantity, sign):
        before = self.pushes[quantity]
        self.pushes[quantity] = sign
        return before

    def calm(self):
        pushed = [sign for sign in self.pushes if sign != NONE]
        self.pushes = [NONE] * self.size()
        return len(pushed)

    def turn(self, quantity):
        for other in range(self.size()):
            # How it acts on itself is turned about twice, so it stays.
            if other != quantity:
                self.table[other][quantity] = turned(self.table[other][quantity])
                self.table[quantity][other] = turned(self.table[quantity][other])
        self.pushes[quantity] = turned(self.pushes[quantity])

    def one_push(self, quantity, sign):
        return with_place([NONE] * self.size(), quantity, sign)

    def table_without(self, acting, upon):
        return with_place(self.table, upon, with_place(self.table[upon], acting, NONE))

    def all_changes(self, pushes):
        return [change(self.table, pushes, quantity) for quantity in range(self.size())]


def begin(plant, given):
    plant.begin(given[0])
    return [0]


def action(plant, given):
    return [plant.set_action(given[0], given[1], given[2])]


def push(plant, given):
    return [plant.set_push(given[0], given[1])]


def calm(plant, given):
    return [plant.calm()]


def turn(plant, given):
    plant.turn(given[0])
    return [0]


def det(plant, given):
    return [determinant(plant.table)]


def ends(plant, given):
    return [change(plant.table, plant.pushes, given[0])]


def all_ends(plant, given):
    return [plant.size()] + plant.all_changes(plant.pushes)


def if_pushed(plant, given):
    return [change(plant.table, plant.one_push(given[0], given[1]), given[2])]


def row(plant, given):
    return [plant.size()] + plant.all_changes(plant.one_push(given[0], ABOVE))


def without(plant, given):
    return [determinant(plant.table_without(given[0], given[1]))]


# Of each call: what it does; what its numbers are, in order (n how many quantities, q a quantity,
# s a sign); whether it's refused where the determinant isn't sure.
CALLS = {
    0: (begin, "n", False),
    1: (action, "qqs", False),
    2: (push, "qs", False),
    3: (calm, "", False),
    4: (turn, "q", False),
    5: (det, "", False),
    6: (ends, "q", True),
    7: (all_ends, "", True),
    8: (if_pushed, "qsq", True),
    9: (row, "q", True),
    10: (without, "qq", False),
}


def is_above(letters, given, letter, most):
    """Whether one of the numbers that have this letter is greater than the most it may be."""
    return any([value > most for kind, value in zip(letters, given) if kind == letter])


def refusal(plant, number, given):
    """The refusal that's due, the one named first if there are several, or 0 if there's none."""
    letters = CALLS[number][1]
    if number == BEGIN:
        return 0 if 1 <= given[0] <= MOST_QUANTITIES else NOT_RIGHT
    if plant.size() == 0:
        return NOT_BEGUN
    if is_above(letters, given, "q", plant.size() - 1):
        return NO_QUANTITY
    if is_above(letters, given, "s", ABOVE):
        return NOT_RIGHT
    if CALLS[number][2] and not is_sure(determinant(plant.table)):
        return NOT_SURE
    return 0


def answer(plant, number, given):
    """The numbers that one call answers."""
    refused = refusal(plant, number, given)
    if refused != 0:
        return [refused]
    called = CALLS[number][0]
    return called(plant, given)


def answers(calls):
    """For each call, in order: how many numbers it answers, then these."""
    plant = Plant()
    told = []
    at = 0
    while at < len(calls):
        number = calls[at]
        behind = at + 1 + len(CALLS[number][1])
        numbers = answer(plant, number, calls[at + 1:behind])
        told.append(len(numbers))
        told.extend(numbers)
        at = behind
    return told
