"""What the tests share: calls by their names, and the document's words as plain enumeration."""

import functools
import itertools

from signsumsdesk.signs import answers

MOST = 4294967295
NAMES = ("begin eq drop change allow turn sum product may all ways nth fits why spare spares "
         "det term minor solved solution look state").split()
LISTED = ("eq", "fits", "why")

# Always the same draws, so that what fails once fails again.
SEED = 20261118


def listed(*calls):
    """The calls, each a tuple of its name and what is given with it, as one list of whole numbers."""
    assert 1 <= len(calls) <= 60
    handed = []
    for name, *given in calls:
        handed.append(NAMES.index(name))
        if name in LISTED:
            handed.append(len(given[0]))
            handed.extend(given[0])
        else:
            handed.extend(given)
    return handed


def split(told):
    """What is given back, as one list for each call."""
    found = []
    place = 0
    while place < len(told):
        end = place + 1 + told[place]
        assert place + 1 < end <= len(told)
        found.append(told[place + 1:end])
        place = end
    return found


def answered(*calls):
    """What each of the calls answers."""
    found = split(answers(listed(*calls)))
    assert len(found) == len(calls)
    return found


def last(*calls):
    """What the last of the calls answers."""
    return answered(*calls)[-1]


def shown(unknowns, equations, *calls):
    """What the object has behind the calls, drawn out of it by changes: its equations, and what each may have."""
    asked = [("change", e, j, 1) for e in range(equations) for j in range(unknowns + 1)]
    asked += [("allow", j, 7) for j in range(unknowns)]
    told = [numbers[0] for numbers in answered(*calls, *asked)[len(calls):]]
    width = unknowns + 1
    return [told[e * width:(e + 1) * width] for e in range(equations)], told[equations * width:]


def value_sign(value):
    return 0 if value < 0 else 2 if value > 0 else 1


def members(signs):
    """The signs in a set, told by the document's 1 for below, 2 for none, 4 for above."""
    return [sign for sign, number in ((0, 1), (1, 2), (2, 4)) if signs // number % 2 == 1]


def plain_set(signs):
    return sum({0: 1, 1: 2, 2: 4}[sign] for sign in set(signs))


def plain_holds(equation, row):
    values = [(before - 1) * (sign - 1) for before, sign in zip(equation, row)] + [1 - equation[-1]]
    if all(value == 0 for value in values):
        return True
    return any(value < 0 for value in values) and any(value > 0 for value in values)


@functools.lru_cache(maxsize=4096)
def kept_rows(allowed, equations):
    rows = sorted(itertools.product((0, 1, 2), repeat=len(allowed)))
    return tuple(row for row in rows
                 if all(sign in members(signs) for signs, sign in zip(allowed, row))
                 and all(plain_holds(equation, row) for equation in equations))


def plain_rows(allowed, equations):
    """The rows that fit, in order, out of all rows that there are."""
    return [list(row) for row in kept_rows(tuple(allowed), tuple(tuple(equation) for equation in equations))]


def plain_terms(table):
    """Each term in order: its sign, and the unknown that each equation takes."""
    found = []
    for taken in sorted(itertools.permutations(range(len(table)))):
        value = -1 if sum(one > other for one, other in itertools.combinations(taken, 2)) % 2 else 1
        for e, j in enumerate(taken):
            value *= table[e][j] - 1
        found.append((value_sign(value), list(taken)))
    return found


def plain_det(table):
    """What the determinant may be, how many terms are above, how many below."""
    signs = [sign for sign, taken in plain_terms(table)]
    above, below = signs.count(2), signs.count(0)
    if above and below:
        return [7, above, below]
    return [4 if above else 1 if below else 2, above, below]


def drawn_signs(draw, length, nones):
    return [1 if draw.random() < nones else draw.choice((0, 2)) for place in range(length)]


def laid(allowed, equations):
    """The calls that lay these out on a new object."""
    calls = [("begin", len(allowed))]
    calls += [("allow", j, signs) for j, signs in enumerate(allowed)]
    calls += [("eq", list(equation)) for equation in equations]
    return calls


def told_rows(allowed, equations):
    """The rows that fit, as ways counts and nth lists them."""
    calls = laid(allowed, equations)
    how_many = answered(*calls, ("ways",))[-1][0]
    rows = []
    while len(rows) < how_many:
        places = range(len(rows), min(len(rows) + 40, how_many))
        rows += [row[1:] for row in answered(*calls, *[("nth", k) for k in places])[len(calls):]]
    assert answered(*calls, ("nth", how_many))[-1] == [-33]
    return rows


class PlainDesk:
    """The calls by the document's words, step by step, to hold the program against."""

    def __init__(self):
        self.allowed = None
        self.equations = None

    def call(self, name, *given):
        if name == "begin":
            return [self.begin(*given)]
        if self.allowed is None:
            return [-11]
        told = getattr(self, "do_" + name)(*given)
        return told if isinstance(told, list) else [told]

    def begin(self, n):
        if n not in (1, 2, 3, 4, 5):
            return -22
        self.allowed = [7] * n
        self.equations = []
        return 0

    def do_eq(self, signs):
        if len(signs) != len(self.allowed) + 1 or set(signs) - {0, 1, 2}:
            return -22
        if len(self.equations) == 5:
            return -28
        self.equations = self.equations + [list(signs)]
        return len(self.equations) - 1

    def do_drop(self, e):
        if e not in range(len(self.equations)):
            return -2
        self.equations = self.equations[:e] + self.equations[e + 1:]
        return len(self.equations)

    def do_change(self, e, j, sign):
        if e not in range(len(self.equations)) or j not in range(len(self.allowed) + 1):
            return -2
        if sign not in (0, 1, 2):
            return -22
        was = self.equations[e][j]
        self.equations[e][j] = sign
        return was

    def do_allow(self, j, signs):
        if j not in range(len(self.allowed)):
            return -2
        if signs not in range(1, 8):
            return -22
        was = self.allowed[j]
        self.allowed[j] = signs
        return was

    def do_turn(self, j):
        if j not in range(len(self.allowed)):
            return -2
        for equation in self.equations:
            equation[j] = {0: 2, 1: 1, 2: 0}[equation[j]]
        self.allowed[j] = plain_set([2 - sign for sign in members(self.allowed[j])])
        return sum(equation[j] != 1 for equation in self.equations)

    def do_sum(self, a, b):
        return self.combined(a, b, lambda x, y: x + y)

    def do_product(self, a, b):
        return self.combined(a, b, lambda x, y: x * y)

    def combined(self, a, b, how):
        if a > 7 or b > 7:
            return -22
        values = range(-2, 3)
        return plain_set([value_sign(how(x, y)) for x in values for y in values
                          if value_sign(x) in members(a) and value_sign(y) in members(b)])

    def do_may(self, j):
        if j not in range(len(self.allowed)):
            return -2
        rows = plain_rows(self.allowed, self.equations)
        return plain_set([row[j] for row in rows]) if rows else -33

    def do_all(self):
        rows = plain_rows(self.allowed, self.equations)
        if not rows:
            return -33
        columns = [[row[j] for row in rows] for j in range(len(self.allowed))]
        return [sum(len(set(column)) == 1 for column in columns)] + [plain_set(column) for column in columns]

    def do_ways(self):
        return len(plain_rows(self.allowed, self.equations))

    def do_nth(self, k):
        rows = plain_rows(self.allowed, self.equations)
        return [len(self.allowed)] + rows[k] if k < len(rows) else -33

    def do_fits(self, signs):
        if len(signs) != len(self.allowed) or set(signs) - {0, 1, 2}:
            return -22
        return 1 if signs in plain_rows(self.allowed, self.equations) else 0

    def do_why(self, signs):
        if len(signs) != len(self.allowed) or set(signs) - {0, 1, 2}:
            return -22
        for j, sign in enumerate(signs):
            if sign not in members(self.allowed[j]):
                return [0, j]
        for e, equation in enumerate(self.equations):
            if not plain_holds(equation, signs):
                return [1, e]
        return -6

    def is_spare(self, e):
        others = self.equations[:e] + self.equations[e + 1:]
        return plain_rows(self.allowed, others) == plain_rows(self.allowed, self.equations)

    def do_spare(self, e):
        if e not in range(len(self.equations)):
            return -2
        return 1 if self.is_spare(e) else 0

    def do_spares(self):
        found = [e for e in range(len(self.equations)) if self.is_spare(e)]
        return [len(found)] + found

    def table(self):
        return [equation[:len(self.allowed)] for equation in self.equations]

    def do_det(self):
        return plain_det(self.table()) if len(self.equations) == len(self.allowed) else -16

    def do_term(self):
        if len(self.equations) != len(self.allowed):
            return -16
        some = [[sign] + taken for sign, taken in plain_terms(self.table()) if sign != 1]
        return some[0] if some else -6

    def do_minor(self, e, j):
        if e not in range(len(self.equations)) or j not in range(len(self.allowed)):
            return -2
        if len(self.equations) != len(self.allowed):
            return -16
        if len(self.allowed) == 1:
            return -22
        kept = [i for i in range(len(self.allowed)) if i != j]
        return plain_det([[row[i] for i in kept] for d, row in enumerate(self.table()) if d != e])[0]

    def do_solved(self, j):
        if j not in range(len(self.allowed)):
            return -2
        if len(self.equations) != len(self.allowed):
            return -16
        whole = plain_det(self.table())[0]
        if whole not in (1, 4):
            return -33
        table = self.table()
        for row, equation in zip(table, self.equations):
            row[j] = equation[-1]
        found = members(plain_det(table)[0])
        return plain_set([2 - sign for sign in found] if whole == 1 else found)

    def do_solution(self):
        found = [self.do_solved(j) for j in range(len(self.allowed))]
        return found[0] if found[0] < 0 else [len(found)] + found

    def do_look(self, e):
        if e not in range(len(self.equations)):
            return -2
        return [len(self.allowed) + 1] + self.equations[e]

    def do_state(self):
        return [len(self.allowed), len(self.equations)] + self.allowed
