"""The calls that ask and change nothing: each gives back the list of numbers that it answers."""

from signsumsdesk.refusals import CANNOT_BE, NO_SUCH, NOT_RIGHT, THERE_IS_NONE
from signsumsdesk.rows import equations_against, row_fits, signs_at, unknowns_against
from signsumsdesk.signsets import ALL_THREE, SET_OF_SIGN, product_of_sets, sum_of_sets


def sum_set(a, b):
    """Which signs a sum may have."""
    if a > ALL_THREE or b > ALL_THREE:
        return [NOT_RIGHT]
    return [sum_of_sets(a, b)]


def product_set(a, b):
    """Which signs a product may have."""
    if a > ALL_THREE or b > ALL_THREE:
        return [NOT_RIGHT]
    return [product_of_sets(a, b)]


def may(desk, j):
    """Which signs unknown j has in rows that fit."""
    if not desk.has_unknown(j):
        return [NO_SUCH]
    rows = desk.rows_that_fit()
    if len(rows) == 0:
        return [CANNOT_BE]
    return [signs_at(rows, j)]


def may_all(desk):
    """How many unknowns have just one sign in rows that fit, then which signs each has there."""
    rows = desk.rows_that_fit()
    if len(rows) == 0:
        return [CANNOT_BE]
    found = [signs_at(rows, j) for j in range(len(desk.allowed))]
    sure = [signs for signs in found if signs in SET_OF_SIGN]
    return [len(sure)] + found


def ways(desk):
    """How many rows fit."""
    return [len(desk.rows_that_fit())]


def nth(desk, k):
    """How many unknowns there are, then their signs in the k-th row that fits."""
    rows = desk.rows_that_fit()
    if k >= len(rows):
        return [CANNOT_BE]
    return [len(rows[k])] + rows[k]


def fits(desk, numbers):
    """1 if the row of signs fits, else 0."""
    if not desk.is_row(numbers):
        return [NOT_RIGHT]
    return [1 if row_fits(desk.allowed, desk.equations, numbers) else 0]


def why(desk, numbers):
    """What stands against the row of signs: 0 and the first such unknown, or else 1 and the first such equation."""
    if not desk.is_row(numbers):
        return [NOT_RIGHT]
    unknowns = unknowns_against(desk.allowed, numbers)
    if len(unknowns) > 0:
        return [0, unknowns[0]]
    equations = equations_against(desk.equations, numbers)
    if len(equations) > 0:
        return [1, equations[0]]
    return [THERE_IS_NONE]


def spare(desk, e):
    """1 if without equation e just the same rows fit, else 0."""
    if not desk.has_equation(e):
        return [NO_SUCH]
    return [1 if desk.rows_without(e) == desk.rows_that_fit() else 0]


def spares(desk):
    """How many equations are spare, each by itself, then these."""
    rows = desk.rows_that_fit()
    found = [e for e in range(len(desk.equations)) if desk.rows_without(e) == rows]
    return [len(found)] + found


def look(desk, e):
    """How many signs equation e has, then these: the right side's is the last."""
    if not desk.has_equation(e):
        return [NO_SUCH]
    return [len(desk.equations[e])] + desk.equations[e]


def state(desk):
    """How many unknowns there are, how many equations, then which signs each unknown may have."""
    return [len(desk.allowed), len(desk.equations)] + desk.allowed
