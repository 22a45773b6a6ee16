"""The calls held against plain enumeration by the document's words."""

import itertools
import random
import unittest

from signsumsdesk.signs import answers
from wording import (MOST, NAMES, SEED, PlainDesk, answered, drawn_signs, laid, listed, plain_rows, plain_set, split,
                     told_rows)


def drawn_table(draw, n):
    nones = draw.choice((0.2, 0.5, 0.8))
    equations = [drawn_signs(draw, n + 1, nones) for e in range(draw.randrange(6))]
    allowed = [draw.choice((7, 7, 7, 1, 2, 3, 4, 5, 6)) for j in range(n)]
    return allowed, equations


class Rows(unittest.TestCase):
    def hold(self, allowed, equations):
        rows = plain_rows(allowed, equations)
        self.assertEqual(told_rows(allowed, equations), rows, (allowed, equations))
        sets = [plain_set([row[j] for row in rows]) for j in range(len(allowed))]
        sure = sum(signs in (1, 2, 4) for signs in sets)
        calls = laid(allowed, equations) + [("all",)] + [("may", j) for j in range(len(allowed))]
        expected = [[sure] + sets] + [[signs] for signs in sets] if rows else [[-33]] * (len(allowed) + 1)
        self.assertEqual(answered(*calls)[-len(expected):], expected, (allowed, equations))

    def test_all_tables_of_one_unknown(self):
        for allowed in range(1, 8):
            for signs in itertools.product((0, 1, 2), repeat=4):
                self.hold([allowed], [list(signs[:2]), list(signs[2:])])

    def test_all_single_equations_of_two_unknowns(self):
        for allowed in itertools.product(range(1, 8), repeat=2):
            for equation in itertools.product((0, 1, 2), repeat=3):
                self.hold(list(allowed), [list(equation)])

    def test_drawn_tables(self):
        draw = random.Random(SEED)
        for step in range(600):
            self.hold(*drawn_table(draw, draw.randrange(1, 6)))


class Held(unittest.TestCase):
    """What the calls tell of one table, as often as a line has room, against the document's words."""

    def hold(self, allowed, equations, asked):
        calls = laid(allowed, equations)
        plain = PlainDesk()
        for call in calls:
            plain.call(*call)
        for place in range(0, len(asked), 40):
            some = asked[place:place + 40]
            expected = [plain.call(*call) for call in some]
            self.assertEqual(answered(*calls, *some)[len(calls):], expected, (calls, some))


class Squares(Held):
    """Terms, determinants, minors and solutions."""

    def hold_square(self, equations):
        n = len(equations)
        asked = [("det",), ("term",), ("solution",)] + [("solved", j) for j in range(n)]
        asked += [("minor", e, j) for e in range(n) for j in range(n)]
        self.hold([7] * n, equations, asked)

    def test_all_tables_of_one_and_two_unknowns(self):
        for signs in itertools.product((0, 1, 2), repeat=2):
            self.hold_square([signs])
        for signs in itertools.product((0, 1, 2), repeat=6):
            self.hold_square([signs[:3], signs[3:]])

    def test_drawn_tables(self):
        draw = random.Random(SEED + 4)
        for step in range(900):
            n = draw.choice((3, 3, 3, 4, 4, 5))
            nones = draw.choice((0.2, 0.5, 0.5, 0.7))
            self.hold_square([drawn_signs(draw, n + 1, nones) for e in range(n)])

    def test_an_unknown_turned_about_turns_the_determinant(self):
        draw = random.Random(SEED + 5)
        turned = {1: 4, 2: 2, 4: 1, 7: 7}
        for step in range(300):
            n = draw.randrange(1, 6)
            calls = laid([7] * n, [drawn_signs(draw, n + 1, 0.5) for e in range(n)])
            j = draw.randrange(n)
            told = answered(*calls, ("det",), ("solution",), ("turn", j), ("det",), ("solution",))[len(calls):]
            before, behind = told[0], told[3]
            self.assertEqual(behind, [turned[before[0]], before[2], before[1]], calls)
            # The solution is turned at that unknown alone.
            expected = list(told[1])
            if expected != [-33]:
                expected[1 + j] = turned[expected[1 + j]]
            self.assertEqual(told[4], expected, calls)


class Spares(Held):
    """What is spare, which rows fit, and what stands against those that don't."""

    def hold_rows(self, allowed, equations):
        rows = [list(row) for row in itertools.product((0, 1, 2), repeat=len(allowed))]
        asked = [("spares",)] + [("spare", e) for e in range(len(equations))]
        asked += [(name, row) for row in rows for name in ("fits", "why")]
        self.hold(allowed, equations, asked)

    def test_all_tables_of_one_unknown(self):
        for allowed in range(1, 8):
            for signs in itertools.product((0, 1, 2), repeat=4):
                self.hold_rows([allowed], [signs[:2], signs[2:]])

    def test_drawn_tables(self):
        draw = random.Random(SEED + 6)
        for step in range(250):
            self.hold_rows(*drawn_table(draw, draw.choice((2, 3, 3, 4))))
        for step in range(20):
            self.hold_rows(*drawn_table(draw, 5))


def drawn_number(draw, most):
    return draw.choice((draw.randrange(most), draw.randrange(most), draw.randrange(most), most, most + 1, MOST))


def drawn_list(draw, right):
    kind = draw.randrange(12)
    if kind == 0:
        return [draw.randrange(3) for place in range(draw.choice((0, right - 1, right + 1, 255)))]
    signs = drawn_signs(draw, right, 0.4)
    if kind == 1:
        signs[draw.randrange(right)] = draw.choice((3, 4, MOST))
    return signs


def towards_square(draw, plain):
    """A call that brings the object nearer to as many equations as unknowns."""
    unknowns = len(plain.allowed)
    if len(plain.equations) < unknowns:
        return ("eq", drawn_signs(draw, unknowns + 1, 0.5))
    return ("drop", draw.randrange(len(plain.equations)))


def is_square(plain):
    return plain.allowed is None or len(plain.equations) == len(plain.allowed)


def drawn_call(draw, plain):
    name = draw.choice(("begin", "eq", "eq", "eq", "eq", "drop", "change", "change", "allow", "allow", "turn", "turn",
                        "nth", *NAMES[6:], *NAMES[16:21]))
    unknowns = 2 if plain.allowed is None else len(plain.allowed)
    equations = 1 if not plain.equations else len(plain.equations)
    given = {"begin": (6,), "drop": (equations,), "change": (equations, unknowns + 1, 3), "allow": (unknowns, 8),
             "turn": (unknowns,), "sum": (8, 8), "product": (8, 8), "may": (unknowns,), "nth": (12,), "spare": (equations,),
             "minor": (equations, unknowns), "solved": (unknowns,), "look": (equations,)}
    if name == "begin" and plain.allowed is not None and draw.random() < 0.7:
        name = "all"
    if name in NAMES[16:21] and not is_square(plain) and draw.random() < 0.8:
        return towards_square(draw, plain)
    if name == "eq":
        return (name, drawn_list(draw, unknowns + 1))
    if name in ("fits", "why"):
        return (name, drawn_list(draw, unknowns))
    return (name, *[drawn_number(draw, most) for most in given.get(name, ())])


class Lines(unittest.TestCase):
    def test_drawn_lines_of_calls(self):
        draw = random.Random(SEED + 1)
        seen = set()
        for step in range(1500):
            plain = PlainDesk()
            calls, expected = [], []
            for place in range(draw.choice((1, 5, 30, 60, 60))):
                call = drawn_call(draw, plain) if place or draw.random() < 0.2 else ("begin", draw.randrange(1, 6))
                calls.append(call)
                expected.append(plain.call(*call))
                seen.add(self.kind_of(call[0], expected[-1]))
            handed = listed(*calls)
            kept = list(handed)
            self.assertEqual(split(answers(handed)), expected, calls)
            self.assertEqual(handed, kept)
        self.assertEqual(seen, self.all_that_can_be_told())

    # Of these calls each first number that they can answer is to be met, of the others each refusal.
    FIRST = {"fits": (0, 1), "why": (0, 1), "spare": (0, 1), "spares": (0, 1, 2, 3, 4, 5), "det": (1, 2, 4, 7),
             "term": (0, 2), "minor": (1, 2, 4, 7), "solved": (1, 2, 4, 7), "solution": (1, 2, 3, 4, 5),
             "look": (2, 3, 4, 5, 6), "state": (1, 2, 3, 4, 5)}

    def kind_of(self, name, numbers):
        return (name, numbers[0] if name in self.FIRST else min(numbers[0], 0))

    def all_that_can_be_told(self):
        refusals = {"begin": (-22,), "eq": (-11, -22, -28), "drop": (-11, -2), "change": (-11, -2, -22),
                    "allow": (-11, -2, -22), "turn": (-11, -2), "sum": (-11, -22), "product": (-11, -22),
                    "may": (-11, -2, -33), "all": (-11, -33), "ways": (-11,), "nth": (-11, -33), "fits": (-11, -22),
                    "why": (-11, -22, -6), "spare": (-11, -2), "spares": (-11,), "det": (-11, -16),
                    "term": (-11, -16, -6), "minor": (-11, -2, -16, -22), "solved": (-11, -2, -16, -33),
                    "solution": (-11, -16, -33), "look": (-11, -2), "state": (-11,)}
        return {(name, number) for name in refusals for number in (*self.FIRST.get(name, (0,)), *refusals[name])}


if __name__ == "__main__":
    unittest.main()
