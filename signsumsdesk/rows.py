"""Rows of signs, one for each unknown: which of them fit, and in which order they stand."""

from signsumsdesk.signsets import ABOVE, BELOW, SIGNS, has_sign, product_sign, set_of, turned_sign


def rows_in_order(length):
    """All rows of so many signs: the lesser sign in the first unknown that differs comes first."""
    rows = [[]]
    for step in range(length):
        longer = []
        for row in rows:
            for sign in SIGNS:
                longer.append(row + [sign])
        rows = longer
    return rows


def parts(equation, row):
    """The signs of the equation's parts: the right side is turned about, so that all come to none."""
    found = [product_sign(before, sign) for before, sign in zip(equation[:-1], row)]
    found.append(turned_sign(equation[-1]))
    return found


def holds(equation, row):
    """Whether the row holds in the equation."""
    found = parts(equation, row)
    # Neither below nor above means that all parts are none.
    return (BELOW in found) == (ABOVE in found)


def unknowns_against(allowed, row):
    """The unknowns that may not have their sign in the row, rising."""
    return [j for j, sign in enumerate(row) if not has_sign(allowed[j], sign)]


def equations_against(equations, row):
    """The equations in which the row does not hold, by their numbers, rising."""
    return [e for e, equation in enumerate(equations) if not holds(equation, row)]


def row_fits(allowed, equations, row):
    """Whether each unknown may have its sign in the row, and the row holds in all equations."""
    return len(unknowns_against(allowed, row)) == 0 and len(equations_against(equations, row)) == 0


def fitting_rows(allowed, equations):
    """The rows that fit, in order."""
    return [row for row in rows_in_order(len(allowed)) if row_fits(allowed, equations, row)]


def signs_at(rows, j):
    """The set of signs that unknown j has in these rows."""
    return set_of([row[j] for row in rows])
