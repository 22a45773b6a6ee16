"""The calls that shape the object: each gives back the list of numbers that it answers."""

from signsumsdesk.refusals import NO_SUCH, NOT_RIGHT, TOO_MANY
from signsumsdesk.signsets import ABOVE, ALL_THREE, NONE, are_signs, turned_set, turned_sign

MOST_UNKNOWNS = 5
MOST_EQUATIONS = 5


def begin(desk, n):
    """There are n unknowns, each with all three signs, and no equations."""
    if n < 1 or n > MOST_UNKNOWNS:
        return [NOT_RIGHT]
    desk.allowed = [ALL_THREE for j in range(n)]
    desk.equations = []
    return [0]


def eq(desk, numbers):
    """One more equation, behind the others."""
    if len(numbers) != len(desk.allowed) + 1 or not are_signs(numbers):
        return [NOT_RIGHT]
    if len(desk.equations) >= MOST_EQUATIONS:
        return [TOO_MANY]
    desk.equations.append(list(numbers))
    return [len(desk.equations) - 1]


def drop(desk, e):
    """Equation e goes."""
    if not desk.has_equation(e):
        return [NO_SUCH]
    desk.equations.pop(e)
    return [len(desk.equations)]


def change(desk, e, j, sign):
    """The sign is what stands before unknown j in equation e, or, behind the last unknown, on its right side."""
    if not desk.has_equation(e) or j > len(desk.allowed):
        return [NO_SUCH]
    if sign > ABOVE:
        return [NOT_RIGHT]
    equation = desk.equations[e]
    earlier = equation[j]
    equation[j] = sign
    return [earlier]


def allow(desk, j, signs):
    """Unknown j may have the signs in this set."""
    if not desk.has_unknown(j):
        return [NO_SUCH]
    if signs < 1 or signs > ALL_THREE:
        return [NOT_RIGHT]
    earlier = desk.allowed[j]
    desk.allowed[j] = signs
    return [earlier]


def turned_at(equation, j):
    """The equation with what stands before unknown j turned about."""
    turned = list(equation)
    turned[j] = turned_sign(equation[j])
    return turned


def turn(desk, j):
    """Unknown j is turned about, in all equations and in what it may have."""
    if not desk.has_unknown(j):
        return [NO_SUCH]
    touched = [equation for equation in desk.equations if equation[j] != NONE]
    desk.equations = [turned_at(equation, j) for equation in desk.equations]
    desk.allowed[j] = turned_set(desk.allowed[j])
    return [len(touched)]
