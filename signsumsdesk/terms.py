"""Terms of a square table, which has a list of signs for each equation, and what its determinant may be."""

from signsumsdesk.signsets import ABOVE, ALL_THREE, BELOW, NONE, SET_OF_SIGN, product_sign, turned_sign


def takings(length):
    """Of each term, in order, the unknown that each equation takes: no two take the same."""
    found = [[]]
    for step in range(length):
        longer = []
        for taken in found:
            for j in range(length):
                if j not in taken:
                    longer.append(taken + [j])
        found = longer
    return found


def is_turned(taken):
    """Whether the pairs of equations of which the earlier one takes the greater unknown are odd in number."""
    pairs = 0
    for e, greater in enumerate(taken):
        pairs = pairs + len([j for j in taken[e + 1:] if j < greater])
    return pairs % 2 == 1


def term_sign(table, taken):
    """The sign of the term that takes these unknowns."""
    sign = ABOVE
    for equation, j in zip(table, taken):
        sign = product_sign(sign, equation[j])
    if is_turned(taken):
        return turned_sign(sign)
    return sign


def term_signs(table):
    """The signs of all terms, in order."""
    return [term_sign(table, taken) for taken in takings(len(table))]


def may_come_to(signs):
    """The set of signs that terms with these signs may have, all together."""
    if BELOW in signs and ABOVE in signs:
        return ALL_THREE
    if BELOW in signs:
        return SET_OF_SIGN[BELOW]
    if ABOVE in signs:
        return SET_OF_SIGN[ABOVE]
    return SET_OF_SIGN[NONE]


def determinant(table):
    """The set of signs that the table's determinant may have."""
    return may_come_to(term_signs(table))
