"""The calls that ask and change nothing: each gives back the list of numbers that it answers."""

from signsumsdesk.refusals import CANNOT_BE, NO_SUCH, NOT_RIGHT
from signsumsdesk.rows import signs_at
from signsumsdesk.signsets import ALL_THREE, SET_OF_SIGN, product_of_sets, sum_of_sets


def sum_set(a, b):
    """Which signs a sum may have."""
    if a > ALL_THREE or b > ALL_THREE:
        return [NOT_RIGHT]
    return [sum_of_sets(a, b)]


def product_set(a, b):
    """Which signs a product may have."""
    if a > ALL_THREE or b > ALL_THREE:
        return [NOT_RIGHT]
    return [product_of_sets(a, b)]


def may(desk, j):
    """Which signs unknown j has in rows that fit."""
    if not desk.has_unknown(j):
        return [NO_SUCH]
    rows = desk.rows_that_fit()
    if len(rows) == 0:
        return [CANNOT_BE]
    return [signs_at(rows, j)]


def may_all(desk):
    """How many unknowns have just one sign in rows that fit, then which signs each has there."""
    rows = desk.rows_that_fit()
    if len(rows) == 0:
        return [CANNOT_BE]
    found = [signs_at(rows, j) for j in range(len(desk.allowed))]
    sure = [signs for signs in found if signs in SET_OF_SIGN]
    return [len(sure)] + found


def ways(desk):
    """How many rows fit."""
    return [len(desk.rows_that_fit())]


def nth(desk, k):
    """How many unknowns there are, then their signs in the k-th row that fits."""
    rows = desk.rows_that_fit()
    if k >= len(rows):
        return [CANNOT_BE]
    return [len(rows[k])] + rows[k]
