"""Point 5: what the calls tell by signs alone, against whole numbers with these signs."""

import fractions
import itertools
import random
import unittest

from wording import SEED, answered, drawn_signs, laid, last, members, plain_terms, told_rows, value_sign


def numbers_with(sign, most):
    return {0: range(-most, 0), 1: (0,), 2: range(1, most + 1)}[sign]


def comes_out(equation, values, most):
    """Whether some whole numbers with the equation's signs, up to most, come out with these values."""
    sums = {0}
    for before, value in zip(equation, values):
        sums = {total + number * value for total in sums for number in numbers_with(before, most)}
    return any(value_sign(total) == equation[-1] for total in sums)


class Rows(unittest.TestCase):
    """A row of signs holds in all equations just if some whole numbers with these signs do."""

    def hold(self, allowed, equations, most):
        rows = told_rows(allowed, equations)
        for row in itertools.product(*[members(signs) for signs in allowed]):
            some = any(all(comes_out(equation, values, 6) for equation in equations)
                       for values in itertools.product(*[numbers_with(sign, most) for sign in row]))
            self.assertEqual(list(row) in rows, some, (row, equations))

    def test_all_equations_of_two_unknowns(self):
        for equation in itertools.product((0, 1, 2), repeat=3):
            self.hold([7, 7], [list(equation)], 3)

    def test_drawn_tables_of_two_unknowns(self):
        draw = random.Random(SEED + 2)
        for step in range(40):
            self.hold([7, 7], [drawn_signs(draw, 3, 0.3) for e in range(draw.randrange(2, 5))], 2)

    def test_drawn_tables_of_five_unknowns(self):
        draw = random.Random(SEED + 3)
        for step in range(15):
            self.hold([draw.choice((7, 5, 6, 3)) for j in range(5)],
                      [drawn_signs(draw, 6, 0.4) for e in range(draw.randrange(1, 4))], 1)


def value_of(table):
    """The determinant of a table of numbers, drawn out by its first row."""
    if not table:
        return 1
    total = 0
    for j, number in enumerate(table[0]):
        if number:
            total += (-1) ** j * number * value_of([row[:j] + row[j + 1:] for row in table[1:]])
    return total


def solved_by(table, right):
    """The one solution, by bringing the table to its diagonal."""
    rows = [[fractions.Fraction(number) for number in (*row, side)] for row, side in zip(table, right)]
    for j in range(len(rows)):
        chosen = next(e for e in range(j, len(rows)) if rows[e][j])
        rows[j], rows[chosen] = rows[chosen], rows[j]
        rows[j] = [number / rows[j][j] for number in rows[j]]
        for e in range(len(rows)):
            if e != j:
                rows[e] = [one - rows[e][j] * other for one, other in zip(rows[e], rows[j])]
    return [row[-1] for row in rows]


def all_numbers(signs, most):
    return itertools.product(*[numbers_with(sign, most) for sign in signs])


def drawn_numbers(draw, signs, most):
    return [draw.choice(numbers_with(sign, most)) for sign in signs]


def leaning(table, taken):
    """Whole numbers with the table's signs of which this one term outweighs all others together."""
    return [[(before - 1) * (1000 if taken[e] == j else 1) for j, before in enumerate(row)] for e, row in enumerate(table)]


def evened(numbers):
    """A table with the same signs whose determinant is 0, if one of its rows can be brought there by one number."""
    for e, row in enumerate(numbers):
        for j, number in enumerate(row):
            rest = value_of(numbers[:e] + [row[:j] + [0] + row[j + 1:]] + numbers[e + 1:])
            share = value_of(numbers[:e] + [[int(i == j) for i in range(len(row))]] + numbers[e + 1:])
            if number and rest * number * share < 0:
                # rest + share * number comes to 0 for number = -rest / share: the row is taken as many times as share.
                scaled = [abs(share) * one for one in row]
                scaled[j] = abs(rest) if number > 0 else -abs(rest)
                return numbers[:e] + [scaled] + numbers[e + 1:]
    return None


class Determinants(unittest.TestCase):
    """The determinant's signs are just those of all tables of whole numbers with these signs."""

    def told(self, table):
        return members(last(*laid([7] * len(table), [[*row, 1] for row in table]), ("det",))[0])

    def test_all_tables_of_one_and_two_unknowns(self):
        for n in (1, 2):
            for signs in itertools.product((0, 1, 2), repeat=n * n):
                found = {value_sign(value_of([list(numbers[e * n:e * n + n]) for e in range(n)]))
                         for numbers in all_numbers(signs, 2)}
                self.assertEqual(self.told([signs[e * n:e * n + n] for e in range(n)]), sorted(found), signs)

    def test_drawn_tables_of_more_unknowns(self):
        draw = random.Random(SEED + 8)
        for step in range(150):
            n = draw.choice((3, 3, 4, 5))
            table = [drawn_signs(draw, n, 0.4) for e in range(n)]
            found = {value_sign(value_of([drawn_numbers(draw, row, 9) for row in table])) for trial in range(20)}
            found |= {value_sign(value_of(leaning(table, taken))) for sign, taken in plain_terms(table) if sign != 1}
            if found >= {0, 2}:
                found.add(value_sign(value_of(self.some_evened(draw, table))))
            self.assertEqual(self.told(table), sorted(found), table)

    def some_evened(self, draw, table):
        for trial in range(1000):
            numbers = evened([drawn_numbers(draw, row, 9) for row in table])
            if numbers is not None:
                self.assertEqual([[value_sign(number) for number in row] for row in numbers], table)
                return numbers
        self.fail(f"no numbers were found whose determinant is 0: {table}")

    def test_where_it_is_not_sure_some_table_has_not_one_solution(self):
        draw = random.Random(SEED + 9)
        for step in range(80):
            n = draw.choice((2, 3, 4, 5))
            equations = [drawn_signs(draw, n + 1, 0.4) for e in range(n)]
            table = [equation[:-1] for equation in equations]
            refused = last(*laid([7] * n, equations), ("solution",)) == [-33]
            numbers = [drawn_numbers(draw, row, 9) for row in table]
            if refused and value_of(numbers) != 0:
                numbers = self.some_evened(draw, table)
            self.assertEqual(value_of(numbers) == 0, refused, equations)


class Solutions(unittest.TestCase):
    """So are the solution's."""

    def hold(self, equations, found):
        n = len(equations)
        told = last(*laid([7] * n, equations), ("solution",))
        self.assertEqual([members(signs) for signs in told[1:]], [sorted(signs) for signs in found], equations)

    def found(self, equations, lines):
        """The signs that each unknown has in the solutions of these tables of numbers."""
        signs = [set() for equation in equations]
        for rows in lines:
            for j, value in enumerate(solved_by([row[:-1] for row in rows], [row[-1] for row in rows])):
                signs[j].add(value_sign(value))
        return signs

    def is_sure(self, equations):
        return last(*laid([7] * len(equations), equations), ("det",))[0] in (1, 4)

    def test_all_tables_of_one_and_two_unknowns(self):
        for n in (1, 2):
            width = n + 1
            for signs in itertools.product((0, 1, 2), repeat=n * width):
                equations = [list(signs[e * width:e * width + width]) for e in range(n)]
                if self.is_sure(equations):
                    lines = [[numbers[e * width:e * width + width] for e in range(n)] for numbers in all_numbers(signs, 2)]
                    self.hold(equations, self.found(equations, lines))

    def test_drawn_tables_of_more_unknowns(self):
        draw = random.Random(SEED + 10)
        held = 0
        for step in range(250):
            n = draw.choice((3, 3, 4, 5))
            equations = [drawn_signs(draw, n + 1, draw.choice((0.4, 0.6))) for e in range(n)]
            if self.is_sure(equations):
                held += 1
                lines = [[drawn_numbers(draw, equation, 9) for equation in equations] for trial in range(60)]
                lines += [line for j in range(n) for line in self.brought_out(draw, equations, j)]
                self.hold(equations, self.found(equations, lines))
        self.assertGreater(held, 60)

    def brought_out(self, draw, equations, j):
        """Tables of numbers in which each term outweighs the others, once the right sides stand at unknown j, and one
        in which they come to 0 if they can."""
        replaced = [equation[:j] + [equation[-1]] + equation[j + 1:-1] for equation in equations]
        terms = [(sign, taken) for sign, taken in plain_terms(replaced) if sign != 1]
        lines = [leaning(replaced, taken) for sign, taken in terms]
        while len({sign for sign, taken in terms}) == 2:
            numbers = evened([drawn_numbers(draw, row, 9) for row in replaced])
            if numbers is not None:
                lines.append(numbers)
                break
        return [[row[:j] + [equation[j] - 1] + row[j + 1:] + [row[j]] for row, equation in zip(line, equations)]
                for line in lines]


if __name__ == "__main__":
    unittest.main()
