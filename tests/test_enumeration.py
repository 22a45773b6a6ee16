"""The calls held against plain enumeration by the document's words, and point 5 against whole numbers."""

import itertools
import random
import unittest

from signsumsdesk.signs import answers
from wording import MOST, PlainDesk, answered, listed, members, plain_rows, plain_set, split, value_sign

# Always the same draws, so that what fails once fails again.
SEED = 20261118


def drawn_signs(draw, length, nones):
    return [1 if draw.random() < nones else draw.choice((0, 2)) for place in range(length)]


def drawn_table(draw, n):
    nones = draw.choice((0.2, 0.5, 0.8))
    equations = [drawn_signs(draw, n + 1, nones) for e in range(draw.randrange(6))]
    allowed = [draw.choice((7, 7, 7, 1, 2, 3, 4, 5, 6)) for j in range(n)]
    return allowed, equations


def laid(allowed, equations):
    """The calls that lay these out on a new object."""
    calls = [("begin", len(allowed))]
    calls += [("allow", j, signs) for j, signs in enumerate(allowed)]
    calls += [("eq", equation) for equation in equations]
    return calls


def told_rows(allowed, equations):
    """The rows that fit, as ways counts and nth lists them."""
    calls = laid(allowed, equations)
    how_many = answered(*calls, ("ways",))[-1][0]
    rows = []
    while len(rows) < how_many:
        places = range(len(rows), min(len(rows) + 40, how_many))
        rows += [row[1:] for row in answered(*calls, *[("nth", k) for k in places])[len(calls):]]
    assert answered(*calls, ("nth", how_many))[-1] == [-33]
    return rows


class Rows(unittest.TestCase):
    def hold(self, allowed, equations):
        rows = plain_rows(allowed, equations)
        self.assertEqual(told_rows(allowed, equations), rows, (allowed, equations))
        sets = [plain_set([row[j] for row in rows]) for j in range(len(allowed))]
        sure = sum(signs in (1, 2, 4) for signs in sets)
        calls = laid(allowed, equations) + [("all",)] + [("may", j) for j in range(len(allowed))]
        expected = [[sure] + sets] + [[signs] for signs in sets] if rows else [[-33]] * (len(allowed) + 1)
        self.assertEqual(answered(*calls)[-len(expected):], expected, (allowed, equations))

    def test_all_tables_of_one_unknown(self):
        for allowed in range(1, 8):
            for signs in itertools.product((0, 1, 2), repeat=4):
                self.hold([allowed], [list(signs[:2]), list(signs[2:])])

    def test_all_single_equations_of_two_unknowns(self):
        for allowed in itertools.product(range(1, 8), repeat=2):
            for equation in itertools.product((0, 1, 2), repeat=3):
                self.hold(list(allowed), [list(equation)])

    def test_drawn_tables(self):
        draw = random.Random(SEED)
        for step in range(600):
            self.hold(*drawn_table(draw, draw.randrange(1, 6)))


def drawn_number(draw, most):
    return draw.choice((draw.randrange(most), draw.randrange(most), draw.randrange(most), most, most + 1, MOST))


def drawn_list(draw, plain):
    right = 3 if plain.allowed is None else len(plain.allowed) + 1
    kind = draw.randrange(12)
    if kind == 0:
        return [draw.randrange(3) for place in range(draw.choice((0, right - 1, right + 1, 255)))]
    signs = drawn_signs(draw, right, 0.4)
    if kind == 1:
        signs[draw.randrange(right)] = draw.choice((3, 4, MOST))
    return signs


def drawn_call(draw, plain):
    name = draw.choice(("begin", "eq", "eq", "eq", "eq", "drop", "change", "change", "allow", "allow", "turn", "turn",
                        "sum", "product", "may", "may", "all", "all", "ways", "ways", "nth", "nth", "nth"))
    unknowns = 2 if plain.allowed is None else len(plain.allowed)
    equations = 1 if not plain.equations else len(plain.equations)
    given = {"begin": (6,), "drop": (equations,), "change": (equations, unknowns + 1, 3), "allow": (unknowns, 8),
             "turn": (unknowns,), "sum": (8, 8), "product": (8, 8), "may": (unknowns,), "nth": (12,)}
    if name == "begin" and plain.allowed is not None and draw.random() < 0.7:
        name = "all"
    if name == "eq":
        return ("eq", drawn_list(draw, plain))
    return (name, *[drawn_number(draw, most) for most in given.get(name, ())])


class Lines(unittest.TestCase):
    def test_drawn_lines_of_calls(self):
        draw = random.Random(SEED + 1)
        seen = set()
        for step in range(1500):
            plain = PlainDesk()
            calls, expected = [], []
            for place in range(draw.choice((1, 5, 30, 60, 60))):
                call = drawn_call(draw, plain) if place or draw.random() < 0.2 else ("begin", draw.randrange(1, 6))
                calls.append(call)
                expected.append(plain.call(*call))
                seen.add((call[0], min(expected[-1][0], 0)))
            handed = listed(*calls)
            kept = list(handed)
            self.assertEqual(split(answers(handed)), expected, calls)
            self.assertEqual(handed, kept)
        self.assertEqual(seen, self.all_that_can_be_told())

    def all_that_can_be_told(self):
        refusals = {"begin": (-22,), "eq": (-11, -22, -28), "drop": (-11, -2), "change": (-11, -2, -22),
                    "allow": (-11, -2, -22), "turn": (-11, -2), "sum": (-11, -22), "product": (-11, -22),
                    "may": (-11, -2, -33), "all": (-11, -33), "ways": (-11,), "nth": (-11, -33)}
        return {(name, number) for name in refusals for number in (0, *refusals[name])}


def numbers_with(sign, most):
    return {0: range(-most, 0), 1: (0,), 2: range(1, most + 1)}[sign]


def comes_out(equation, values, most):
    """Whether some whole numbers with the equation's signs, up to most, come out with these values."""
    sums = {0}
    for before, value in zip(equation, values):
        sums = {total + number * value for total in sums for number in numbers_with(before, most)}
    return any(value_sign(total) == equation[-1] for total in sums)


class WholeNumbers(unittest.TestCase):
    """A row of signs holds in all equations just if some whole numbers with these signs do."""

    def hold(self, allowed, equations, most):
        rows = told_rows(allowed, equations)
        for row in itertools.product(*[members(signs) for signs in allowed]):
            some = any(all(comes_out(equation, values, 6) for equation in equations)
                       for values in itertools.product(*[numbers_with(sign, most) for sign in row]))
            self.assertEqual(list(row) in rows, some, (row, equations))

    def test_all_equations_of_two_unknowns(self):
        for equation in itertools.product((0, 1, 2), repeat=3):
            self.hold([7, 7], [list(equation)], 3)

    def test_drawn_tables_of_two_unknowns(self):
        draw = random.Random(SEED + 2)
        for step in range(40):
            self.hold([7, 7], [drawn_signs(draw, 3, 0.3) for e in range(draw.randrange(2, 5))], 2)

    def test_drawn_tables_of_five_unknowns(self):
        draw = random.Random(SEED + 3)
        for step in range(15):
            self.hold([draw.choice((7, 5, 6, 3)) for j in range(5)],
                      [drawn_signs(draw, 6, 0.4) for e in range(draw.randrange(1, 4))], 1)


if __name__ == "__main__":
    unittest.main()
