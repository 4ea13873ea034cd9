"""Signs, sets of signs, and what follows from a table of signs alone."""

BELOW = 0
NONE = 1
ABOVE = 2

ONLY_BELOW = 1
ONLY_NONE = 2
ONLY_ABOVE = 4
ALL_THREE = 7


def turned(sign):
    """The sign turned about."""
    return ABOVE - sign


def turned_set(signs):
    """The set of signs with each of them turned about."""
    if signs == ONLY_BELOW:
        return ONLY_ABOVE
    if signs == ONLY_ABOVE:
        return ONLY_BELOW
    return signs


def times(one, other):
    """The sign of the product."""
    return (one - NONE) * (other - NONE) + NONE


def with_place(whole, place, part):
    """A copy of the list with this part at that place."""
    return whole[:place] + [part] + whole[place + 1:]


def grown_sign(sign, taken, quantity, acts):
    """The sign of a begun term when its next row takes the quantity, which acts so."""
    product = times(sign, acts)
    greater = [earlier for earlier in taken if earlier > quantity]
    if len(greater) % 2 == 1:
        return turned(product)
    return product


def term_signs(table):
    """The signs of the table's terms, but for those that are none."""
    begun = [([], ABOVE)]
    for row in table:
        longer = []
        for taken, sign in begun:
            for quantity, acts in enumerate(row):
                # One none makes the whole term none, so it need not be gone on with.
                if acts != NONE and quantity not in taken:
                    longer.append((taken + [quantity], grown_sign(sign, taken, quantity, acts)))
        begun = longer
    return [sign for taken, sign in begun]


def determinant(table):
    """The set of signs that the table's determinant may have."""
    signs = term_signs(table)
    if ABOVE in signs and BELOW in signs:
        return ALL_THREE
    if ABOVE in signs:
        return ONLY_ABOVE
    if BELOW in signs:
        return ONLY_BELOW
    return ONLY_NONE


def is_sure(signs):
    """Whether a determinant that may have these signs is sure."""
    return signs == ONLY_ABOVE or signs == ONLY_BELOW


def change(table, whole, pushes, quantity):
    """What the quantity's change may be by the pushes, where whole is the table's determinant, and sure."""
    replaced = [with_place(row, quantity, turned(push)) for row, push in zip(table, pushes)]
    signs = determinant(replaced)
    if whole == ONLY_BELOW:
        return turned_set(signs)
    return signs


def changes(table, pushes):
    """What each quantity's change may be by the pushes, if the table's determinant is sure."""
    whole = determinant(table)
    return [change(table, whole, pushes, quantity) for quantity in range(len(table))]


def one_push(number, quantity, sign):
    """The pushes of so many quantities if that one alone were pushed, by this sign."""
    return with_place([NONE] * number, quantity, sign)


def table_without(table, acting, upon):
    """The table as it were if the one didn't act on the other."""
    return with_place(table, upon, with_place(table[upon], acting, NONE))


def outcome(table):
    """The determinant's set and, if that's sure, all changes, whichever quantity were pushed up alone."""
    whole = determinant(table)
    told = [whole]
    if is_sure(whole):
        for pushed in range(len(table)):
            told.extend(changes(table, one_push(len(table), pushed, ABOVE)))
    return told


def is_idle(table, whole_outcome, acting, upon):
    """Whether the one acts on the other and the table's outcome were the same if it didn't."""
    return table[upon][acting] != NONE and outcome(table_without(table, acting, upon)) == whole_outcome


def idle_pairs(table):
    """The pairs of one that acts and one that it acts on that are idle, in order."""
    whole_outcome = outcome(table)
    pairs = []
    for acting in range(len(table)):
        for upon in range(len(table)):
            if is_idle(table, whole_outcome, acting, upon):
                pairs.append((acting, upon))
    return pairs


def paths_from(table, first):
    """The paths from a quantity, wherever they lead, in order."""
    found = [[first]]
    begun = [[first]]
    while len(begun) > 0:
        longer = []
        for quantities in begun:
            for quantity, row in enumerate(table):
                if row[quantities[-1]] != NONE and quantity not in quantities:
                    longer.append(quantities + [quantity])
        found.extend(longer)
        begun = longer
    return sorted(found)


def walk_sign(table, quantities):
    """The sign of the product of how each of the quantities acts on the next one."""
    sign = ABOVE
    for acting, upon in zip(quantities, quantities[1:]):
        sign = times(sign, table[upon][acting])
    return sign


def signed_paths(table, first, last):
    """The paths from one quantity to another, in order, each with its sign ahead."""
    found = [quantities for quantities in paths_from(table, first) if quantities[-1] == last]
    return [(walk_sign(table, quantities), quantities) for quantities in found]


def signed_loops(table):
    """The loops, in order, each with its sign ahead."""
    loops = []
    for first in range(len(table)):
        for quantities in paths_from(table, first):
            # Each loop is told once, begun with its least quantity.
            if min(quantities) == first and table[first][quantities[-1]] != NONE:
                loops.append((walk_sign(table, quantities + [first]), quantities))
    return loops


def settling(table):
    """The first of the five things that is so and keeps it from being surely one balance; 0 if none is."""
    on_themselves = [row[quantity] for quantity, row in enumerate(table)]
    if ABOVE in on_themselves:
        return 1
    if BELOW not in on_themselves:
        return 2
    loops = signed_loops(table)
    if any([sign == ABOVE and len(quantities) == 2 for sign, quantities in loops]):
        return 3
    if any([len(quantities) > 2 for sign, quantities in loops]):
        return 4
    if determinant(table) == ONLY_NONE:
        return 5
    return 0
