"""Signs (0 below, 1 none, 2 above), and sets of signs (1 below, 2 none, 4 above, added up)."""

BELOW = 0
NONE = 1
ABOVE = 2
SIGNS = (0, 1, 2)
SET_OF_SIGN = (1, 2, 4)
ALL_THREE = 7


def turned_sign(sign):
    """Below for above, above for below."""
    return ABOVE - sign


def product_sign(one, other):
    """The sign of the product of two numbers with these signs."""
    # Less NONE, signs are -1, 0 and 1, and these multiply as signs do.
    return (one - NONE) * (other - NONE) + NONE


def are_signs(numbers):
    """Whether each of the numbers is a sign."""
    for number in numbers:
        if number > ABOVE:
            return False
    return True


def has_sign(signs, sign):
    """Whether this sign is in the set."""
    return (signs & SET_OF_SIGN[sign]) != 0


def signs_in(signs):
    """The signs that are in the set, rising."""
    return [sign for sign in SIGNS if has_sign(signs, sign)]


def set_of(signs):
    """The set that has just the signs in this list."""
    found = 0
    for sign in signs:
        found = found | SET_OF_SIGN[sign]
    return found


def turned_set(signs):
    """The set that has each sign of this one turned about."""
    return set_of([turned_sign(sign) for sign in signs_in(signs)])


def sum_of_signs(one, other):
    """The set of signs that the sum of two numbers with these signs may have."""
    if one == NONE:
        return SET_OF_SIGN[other]
    if other == NONE or other == one:
        return SET_OF_SIGN[one]
    return ALL_THREE


def sum_of_sets(a, b):
    """The set of signs that a sum may have whose one number has a sign in a, the other one in b."""
    found = 0
    for one in signs_in(a):
        for other in signs_in(b):
            found = found | sum_of_signs(one, other)
    return found


def product_of_sets(a, b):
    """The set of signs that a product may have whose one number has a sign in a, the other one in b."""
    found = 0
    for one in signs_in(a):
        for other in signs_in(b):
            found = found | SET_OF_SIGN[product_sign(one, other)]
    return found
