"""Rows of signs, one for each unknown: which of them fit, and in which order they stand."""

from signsumsdesk.signsets import ABOVE, BELOW, SIGNS, has_sign, product_sign, set_of, turned_sign


def rows_in_order(length):
    """All rows of so many signs: the lesser sign in the first unknown that differs comes first."""
    rows = [[]]
    for step in range(length):
        longer = []
        for row in rows:
            for sign in SIGNS:
                longer.append(row + [sign])
        rows = longer
    return rows


def parts(equation, row):
    """The signs of the equation's parts: the right side is turned about, so that all come to none."""
    found = [product_sign(before, sign) for before, sign in zip(equation[:-1], row)]
    found.append(turned_sign(equation[-1]))
    return found


def holds(equation, row):
    """Whether the row holds in the equation."""
    found = parts(equation, row)
    # Neither below nor above means that all parts are none.
    return (BELOW in found) == (ABOVE in found)


def holds_in_all(equations, row):
    """Whether the row holds in each of the equations."""
    for equation in equations:
        if not holds(equation, row):
            return False
    return True


def is_allowed(allowed, row):
    """Whether each unknown may have its sign in the row."""
    for signs, sign in zip(allowed, row):
        if not has_sign(signs, sign):
            return False
    return True


def fitting_rows(allowed, equations):
    """The rows that fit, in order."""
    found = []
    for row in rows_in_order(len(allowed)):
        if is_allowed(allowed, row) and holds_in_all(equations, row):
            found.append(row)
    return found


def signs_at(rows, j):
    """The set of signs that unknown j has in these rows."""
    return set_of([row[j] for row in rows])
