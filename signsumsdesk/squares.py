"""The calls that ask a square table: each gives back the list of numbers that it answers."""

from signsumsdesk.refusals import CANNOT_BE, NO_SUCH, NOT_RIGHT, NOT_SQUARE, THERE_IS_NONE
from signsumsdesk.signsets import ABOVE, BELOW, NONE, SET_OF_SIGN, turned_set
from signsumsdesk.terms import determinant, may_come_to, takings, term_sign, term_signs


def det(desk):
    """What the determinant may be, then how many terms are above, how many below."""
    if not desk.is_square():
        return [NOT_SQUARE]
    signs = term_signs(desk.table())
    return [may_come_to(signs), signs.count(ABOVE), signs.count(BELOW)]


def term(desk):
    """The sign of the first term that isn't none, then of each equation the unknown that it takes."""
    if not desk.is_square():
        return [NOT_SQUARE]
    table = desk.table()
    for taken in takings(len(table)):
        sign = term_sign(table, taken)
        if sign != NONE:
            return [sign] + taken
    return [THERE_IS_NONE]


def minor(desk, e, j):
    """What the determinant may be of the table without equation e and without unknown j."""
    if not desk.has_equation(e) or not desk.has_unknown(j):
        return [NO_SUCH]
    if not desk.is_square():
        return [NOT_SQUARE]
    if len(desk.allowed) == 1:
        return [NOT_RIGHT]
    return [determinant(desk.table_without(e, j))]


def is_sure(signs):
    """Whether a determinant that may have these signs is above alone, or below alone."""
    return signs == SET_OF_SIGN[ABOVE] or signs == SET_OF_SIGN[BELOW]


def in_solution(desk, j, signs):
    """The set of signs that unknown j may have in the solution, where the determinant has these signs."""
    found = determinant(desk.table_with_right_sides(j))
    if signs == SET_OF_SIGN[BELOW]:
        return turned_set(found)
    return found


def solved(desk, j):
    """Which signs unknown j may have in the solution."""
    if not desk.has_unknown(j):
        return [NO_SUCH]
    if not desk.is_square():
        return [NOT_SQUARE]
    signs = determinant(desk.table())
    if not is_sure(signs):
        return [CANNOT_BE]
    return [in_solution(desk, j, signs)]


def solution(desk):
    """How many unknowns there are, then which signs each may have in the solution."""
    if not desk.is_square():
        return [NOT_SQUARE]
    signs = determinant(desk.table())
    if not is_sure(signs):
        return [CANNOT_BE]
    found = [in_solution(desk, j, signs) for j in range(len(desk.allowed))]
    return [len(found)] + found
