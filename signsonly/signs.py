"""Signs, sets of signs, and what follows from a table of signs alone."""

BELOW = 0
NONE = 1
ABOVE = 2

ONLY_BELOW = 1
ONLY_NONE = 2
ONLY_ABOVE = 4
ALL_THREE = 7


def turned(sign):
    """The sign turned about."""
    return ABOVE - sign


def turned_set(signs):
    """The set of signs with each of them turned about."""
    if signs == ONLY_BELOW:
        return ONLY_ABOVE
    if signs == ONLY_ABOVE:
        return ONLY_BELOW
    return signs


def times(one, other):
    """The sign of the product."""
    return (one - NONE) * (other - NONE) + NONE


def with_place(whole, place, part):
    """A copy of the list with this part at that place."""
    return whole[:place] + [part] + whole[place + 1:]


def grown_sign(sign, taken, quantity, acts):
    """The sign of a begun term when its next row takes the quantity, which acts so."""
    product = times(sign, acts)
    greater = [earlier for earlier in taken if earlier > quantity]
    if len(greater) % 2 == 1:
        return turned(product)
    return product


def term_signs(table):
    """The signs of the table's terms, but for those that are none."""
    begun = [([], ABOVE)]
    for row in table:
        longer = []
        for taken, sign in begun:
            for quantity, acts in enumerate(row):
                # One none makes the whole term none, so it need not be gone on with.
                if acts != NONE and quantity not in taken:
                    longer.append((taken + [quantity], grown_sign(sign, taken, quantity, acts)))
        begun = longer
    return [sign for taken, sign in begun]


def determinant(table):
    """The set of signs that the table's determinant may have."""
    signs = term_signs(table)
    if ABOVE in signs and BELOW in signs:
        return ALL_THREE
    if ABOVE in signs:
        return ONLY_ABOVE
    if BELOW in signs:
        return ONLY_BELOW
    return ONLY_NONE


def is_sure(signs):
    """Whether a determinant that may have these signs is sure."""
    return signs == ONLY_ABOVE or signs == ONLY_BELOW


def change(table, pushes, quantity):
    """What the quantity's change may be by the pushes, if the table's determinant is sure."""
    replaced = [with_place(row, quantity, turned(push)) for row, push in zip(table, pushes)]
    signs = determinant(replaced)
    if determinant(table) == ONLY_BELOW:
        return turned_set(signs)
    return signs
