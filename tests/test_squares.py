"""Point 3: det, term, minor, solved, solution."""

import unittest

from wording import MOST, answered, last

ABOVE_FOR_SURE = (("begin", 2), ("eq", [2, 2, 2]), ("eq", [0, 2, 2]))
BELOW_FOR_SURE = (("begin", 2), ("eq", [0, 2, 2]), ("eq", [2, 2, 0]))
BOTH_SIGNS = (("begin", 2), ("eq", [2, 2, 1]), ("eq", [2, 2, 2]))
ALL_NONE = (("begin", 2), ("eq", [2, 1, 2]), ("eq", [0, 1, 1]))
SQUARE_CALLS = (("det",), ("term",), ("minor", 0, 0), ("solved", 0), ("solution",))


def laid_out(*rows):
    """The calls that lay out a table, with right sides that are none."""
    return (("begin", len(rows)), *[("eq", [*row, 1]) for row in rows])


def diagonal(n, sign=2):
    return laid_out(*[[sign if i == j else 1 for i in range(n)] for j in range(n)])


def other_diagonal(n):
    return laid_out(*[[2 if i + j == n - 1 else 1 for i in range(n)] for j in range(n)])


class Square(unittest.TestCase):
    """-16 it isn't square, behind -2."""

    def test_as_many_equations_as_unknowns(self):
        for n in range(1, 6):
            for equations in range(6):
                calls = (("begin", n), *[("eq", [2 if j == e else 1 for j in range(n)] + [1]) for e in range(equations)])
                told = answered(*calls, ("det",), ("term",), ("solved", 0), ("solution",))[len(calls):]
                if equations == n:
                    self.assertEqual(told, [[4, 1, 0], [2, *range(n)], [2], [n] + [2] * n])
                else:
                    self.assertEqual(told, [[-16]] * 4)

    def test_minor_of_what_is_not_square(self):
        for n in range(1, 6):
            for equations in range(1, 6):
                if n != equations:
                    calls = (("begin", n), *[("eq", [2] * n + [1])] * equations)
                    self.assertEqual(last(*calls, ("minor", equations - 1, n - 1)), [-16])

    def test_no_such_one_comes_first(self):
        for calls, e, j in (((("begin", 2), ("eq", [1, 1, 1])), 0, 2), ((("begin", 2), ("eq", [1, 1, 1])), 1, 0),
                            ((("begin", 2), ("eq", [1, 1, 1])), MOST, MOST), ((("begin", 2),), 0, 0),
                            ((("begin", 1),), 0, 0), ((("begin", 1), ("eq", [2, 2])), 0, 1),
                            ((("begin", 1), ("eq", [2, 2])), 1, 0), (ALL_NONE, 2, 0), (ALL_NONE, 0, 2),
                            (ALL_NONE, MOST, 0), (ALL_NONE, 0, MOST)):
            self.assertEqual(last(*calls, ("minor", e, j)), [-2])
        for calls in ((("begin", 2),), (("begin", 2), ("eq", [1, 1, 1])), ALL_NONE, BOTH_SIGNS, ABOVE_FOR_SURE):
            for j in (2, 3, 5, MOST):
                self.assertEqual(last(*calls, ("solved", j)), [-2])

    def test_not_square_comes_ahead_of_the_others(self):
        # One unknown, all terms none, not sure: each would be refused otherwise if it were square.
        calls = (("begin", 1), ("eq", [1, 2]), ("eq", [1, 2]))
        self.assertEqual(answered(*calls, *SQUARE_CALLS)[3:], [[-16]] * 5)
        self.assertEqual(answered(*calls, ("drop", 0), *SQUARE_CALLS)[4:], [[2, 0, 0], [-6], [-22], [-33], [-33]])

    def test_a_drop_and_a_new_one(self):
        calls = (*ABOVE_FOR_SURE, ("eq", [1, 1, 1]))
        self.assertEqual(answered(*calls, ("det",), ("drop", 2), ("det",), ("drop", 0), ("det",), ("eq", [0, 2, 1]),
                                  ("det",))[4:], [[-16], [2], [4, 2, 0], [1], [-16], [1], [7, 1, 1]])


class Det(unittest.TestCase):
    def test_surely_above(self):
        self.assertEqual(last(*ABOVE_FOR_SURE, ("det",)), [4, 2, 0])

    def test_surely_below(self):
        self.assertEqual(last(*BELOW_FOR_SURE, ("det",)), [1, 0, 2])

    def test_terms_of_both_signs(self):
        self.assertEqual(last(*BOTH_SIGNS, ("det",)), [7, 1, 1])

    def test_all_terms_none(self):
        self.assertEqual(last(*ALL_NONE, ("det",)), [2, 0, 0])
        for n in range(1, 6):
            self.assertEqual(last(("begin", n), *[("eq", [1] * n + [2])] * n, ("det",)), [2, 0, 0])

    def test_one_unknown(self):
        for sign, expected in ((0, [1, 0, 1]), (1, [2, 0, 0]), (2, [4, 1, 0])):
            self.assertEqual(last(("begin", 1), ("eq", [sign, 0]), ("det",)), expected)

    def test_two_unknowns_each_term(self):
        for one, other, expected in ((2, 2, [4, 1, 0]), (2, 0, [1, 0, 1]), (0, 0, [4, 1, 0]), (1, 0, [2, 0, 0])):
            self.assertEqual(last(*laid_out([one, 1], [1, other]), ("det",)), expected)
        for one, other, expected in ((2, 2, [1, 0, 1]), (2, 0, [4, 1, 0]), (0, 0, [1, 0, 1]), (0, 1, [2, 0, 0])):
            self.assertEqual(last(*laid_out([1, one], [other, 1]), ("det",)), expected)

    def test_diagonals(self):
        for n in range(1, 6):
            self.assertEqual(last(*diagonal(n), ("det",)), [4, 1, 0])
            self.assertEqual(last(*diagonal(n, 0), ("det",)), [4, 1, 0] if n % 2 == 0 else [1, 0, 1])
            self.assertEqual(last(*other_diagonal(n), ("det",)), [4, 1, 0] if n in (1, 4, 5) else [1, 0, 1])

    def test_all_above(self):
        for n, half in ((2, 1), (3, 3), (4, 12), (5, 60)):
            self.assertEqual(last(*laid_out(*[[2] * n] * n), ("det",)), [7, half, half])

    def test_three_unknowns(self):
        # Each term is above: 2x2 above the corner, and what goes round twice.
        self.assertEqual(last(*laid_out([2, 2, 1], [0, 2, 2], [2, 0, 2]), ("det",)), [4, 4, 0])
        self.assertEqual(last(*laid_out([2, 2, 2], [2, 2, 2], [1, 1, 2]), ("det",)), [7, 1, 1])
        self.assertEqual(last(*laid_out([1, 2, 0], [1, 0, 2], [1, 2, 2]), ("det",)), [2, 0, 0])

    def test_right_sides_and_what_may_be_had_are_not_looked_at(self):
        calls = (*ABOVE_FOR_SURE, ("allow", 0, 2), ("allow", 1, 1))
        for right in range(3):
            self.assertEqual(last(*calls, ("change", 0, 2, right), ("change", 1, 2, right), ("det",)), [4, 2, 0])

    def test_an_unknown_turned_about_turns_it(self):
        for calls, expected in ((ABOVE_FOR_SURE, [1, 0, 2]), (BELOW_FOR_SURE, [4, 2, 0]), (BOTH_SIGNS, [7, 1, 1]),
                                (ALL_NONE, [2, 0, 0])):
            for j in range(2):
                self.assertEqual(last(*calls, ("turn", j), ("det",)), expected)
        calls = laid_out([2, 2, 2], [2, 2, 1], [2, 0, 1])
        self.assertEqual(answered(*calls, ("det",), ("turn", 1), ("det",))[4:], [[1, 0, 2], [3], [4, 2, 0]])


class Term(unittest.TestCase):
    def test_the_first_that_is_not_none(self):
        self.assertEqual(last(*ABOVE_FOR_SURE, ("term",)), [2, 0, 1])
        self.assertEqual(last(*ABOVE_FOR_SURE, ("change", 0, 0, 1), ("term",)), [2, 1, 0])
        self.assertEqual(last(*BELOW_FOR_SURE, ("term",)), [0, 0, 1])
        self.assertEqual(last(*BELOW_FOR_SURE, ("change", 1, 1, 1), ("term",)), [0, 1, 0])

    def test_it_is_turned_about_by_pairs(self):
        for rows, expected in (
                (([1, 2, 1], [1, 1, 2], [2, 1, 1]), [2, 1, 2, 0]), (([1, 1, 2], [1, 2, 1], [2, 1, 1]), [0, 2, 1, 0]),
                (([2, 1, 1], [1, 1, 2], [1, 2, 1]), [0, 0, 2, 1]), (([1, 1, 2], [2, 1, 1], [1, 2, 1]), [2, 2, 0, 1]),
                (([1, 2, 1], [1, 1, 0], [2, 1, 1]), [0, 1, 2, 0]), (([1, 1, 0], [1, 2, 1], [2, 1, 1]), [2, 2, 1, 0])):
            self.assertEqual(last(*laid_out(*rows), ("term",)), expected)

    def test_the_order_is_by_the_first_equation(self):
        # (0, 2, 1) and (1, 0, 2) are there: the first equation tells, not the last one.
        self.assertEqual(last(*laid_out([2, 2, 1], [2, 1, 2], [1, 2, 2]), ("term",)), [0, 0, 2, 1])
        self.assertEqual(last(*laid_out([1, 2, 2], [2, 2, 1], [2, 1, 2]), ("term",)), [0, 1, 0, 2])

    def test_all_terms_none(self):
        self.assertEqual(last(*ALL_NONE, ("term",)), [-6])
        for n in range(1, 6):
            self.assertEqual(last(("begin", n), *[("eq", [1] * n + [2])] * n, ("term",)), [-6])

    def test_one_unknown(self):
        for sign, expected in ((0, [0, 0]), (1, [-6]), (2, [2, 0])):
            self.assertEqual(last(("begin", 1), ("eq", [sign, 0]), ("term",)), expected)

    def test_five_unknowns(self):
        self.assertEqual(last(*laid_out(*[[2] * 5] * 5), ("term",)), [2, 0, 1, 2, 3, 4])
        self.assertEqual(last(*other_diagonal(5), ("term",)), [2, 4, 3, 2, 1, 0])
        self.assertEqual(last(*other_diagonal(5), ("turn", 3), ("term",)), [0, 4, 3, 2, 1, 0])


class Minor(unittest.TestCase):
    TABLE = laid_out([2, 0, 1], [2, 2, 0], [1, 0, 2])

    def test_each_of_three_unknowns(self):
        expected = (((0, 0), 7), ((0, 1), 4), ((0, 2), 1), ((1, 0), 1), ((1, 1), 4), ((1, 2), 1),
                    ((2, 0), 4), ((2, 1), 1), ((2, 2), 4))
        for (e, j), signs in expected:
            self.assertEqual(last(*self.TABLE, ("minor", e, j)), [signs], (e, j))

    def test_two_unknowns(self):
        calls = laid_out([0, 1], [2, 0])
        self.assertEqual(answered(*calls, *[("minor", e, j) for e in range(2) for j in range(2)])[3:], [[1], [4], [2], [1]])

    def test_it_is_not_turned_about_by_its_place(self):
        self.assertEqual(answered(*laid_out([2, 2], [2, 2]), ("minor", 0, 1), ("minor", 1, 0))[3:], [[4], [4]])

    def test_one_unknown(self):
        for sign in range(3):
            self.assertEqual(last(("begin", 1), ("eq", [sign, 2]), ("minor", 0, 0)), [-22])

    def test_the_right_side_is_no_unknown(self):
        self.assertEqual(last(*self.TABLE, ("minor", 0, 3)), [-2])

    def test_right_sides_are_not_looked_at(self):
        calls = (("begin", 2), ("eq", [1, 2, 0]), ("eq", [2, 1, 2]))
        self.assertEqual(answered(*calls, ("minor", 0, 1), ("minor", 1, 1))[3:], [[4], [2]])

    def test_five_unknowns(self):
        self.assertEqual(last(*laid_out(*[[2] * 5] * 5), ("minor", 4, 4)), [7])
        self.assertEqual(answered(*other_diagonal(5), ("minor", 4, 0), ("minor", 0, 4), ("minor", 4, 4))[6:], [[4], [4], [2]])
        self.assertEqual(answered(*diagonal(5, 0), ("minor", 2, 2), ("minor", 2, 3))[6:], [[4], [2]])

    def test_a_whole_that_is_not_sure(self):
        self.assertEqual(answered(*ALL_NONE, ("minor", 0, 1), ("minor", 1, 1), ("minor", 0, 0))[3:], [[1], [4], [2]])


class Solved(unittest.TestCase):
    def both(self, calls, sets):
        """Solved and solution tell the same."""
        told = answered(*calls, *[("solved", j) for j in range(len(sets))], ("solution",))[len(calls):]
        self.assertEqual(told, [[signs] for signs in sets] + [[len(sets)] + sets], calls)

    def test_surely_above(self):
        self.both(ABOVE_FOR_SURE, [7, 4])
        self.both((*ABOVE_FOR_SURE, ("change", 0, 2, 1)), [1, 4])
        self.both((*ABOVE_FOR_SURE, ("change", 1, 2, 0)), [4, 7])

    def test_surely_below(self):
        self.both(BELOW_FOR_SURE, [1, 7])
        self.both((*BELOW_FOR_SURE, ("change", 1, 2, 2)), [7, 4])
        self.both((*BELOW_FOR_SURE, ("change", 0, 2, 1)), [1, 1])

    def test_right_sides_none(self):
        for n in range(1, 6):
            self.both(diagonal(n), [2] * n)

    def test_one_unknown(self):
        for before, right, signs in ((2, 2, 4), (2, 1, 2), (2, 0, 1), (0, 2, 1), (0, 1, 2), (0, 0, 4)):
            self.both((("begin", 1), ("eq", [before, right])), [signs])
        for right in range(3):
            self.assertEqual(answered(("begin", 1), ("eq", [1, right]), ("solved", 0), ("solution",))[2:], [[-33], [-33]])

    def test_the_right_side_goes_to_its_unknown(self):
        calls = (*diagonal(5), *[("change", e, 5, sign) for e, sign in enumerate((0, 1, 2, 2, 0))])
        self.both(calls, [1, 2, 4, 4, 1])
        self.both((*calls, ("turn", 0), ("turn", 3)), [4, 2, 4, 1, 1])
        rights = [("change", e, 5, sign) for e, sign in enumerate((0, 1, 2, 2, 2))]
        self.both((*other_diagonal(5), *rights), [4, 4, 4, 2, 1])
        rights = [("change", e, 3, sign) for e, sign in enumerate((0, 1, 2))]
        self.both((*other_diagonal(3), *rights), [4, 2, 1])

    def test_a_triangle(self):
        # z is above, so y is below, and x is open.
        self.both((("begin", 3), ("eq", [2, 2, 2, 1]), ("eq", [1, 2, 2, 1]), ("eq", [1, 1, 2, 2])), [7, 1, 4])

    def test_not_sure(self):
        for calls in (BOTH_SIGNS, ALL_NONE, laid_out(*[[2] * 5] * 5), laid_out(*[[1] * 5] * 5)):
            self.assertEqual(answered(*calls, ("solved", 0), ("solved", 1), ("solution",))[len(calls):], [[-33]] * 3)

    def test_two_equations_alike(self):
        for signs in ([2, 0, 1], [2, 1, 2], [0, 0, 0]):
            calls = (("begin", 2), ("eq", signs), ("eq", signs))
            self.assertEqual(answered(*calls, ("solved", 1), ("solution",))[3:], [[-33], [-33]])

    def test_whatever_it_may_have_is_not_looked_at(self):
        for signs in range(1, 8):
            self.both((*ABOVE_FOR_SURE, ("allow", 0, signs), ("allow", 1, signs)), [7, 4])
        # No row fits, and the solution is told all the same.
        calls = (*ABOVE_FOR_SURE, ("allow", 0, 2), ("allow", 1, 1))
        self.assertEqual(last(*calls, ("ways",)), [0])
        self.both(calls, [7, 4])

    def test_the_table_is_as_it_was_afterwards(self):
        self.assertEqual(answered(*BELOW_FOR_SURE, ("solution",), ("solved", 0), ("look", 0), ("look", 1), ("det",))[3:],
                         [[2, 1, 7], [1], [3, 0, 2, 2], [3, 2, 2, 0], [1, 0, 2]])


if __name__ == "__main__":
    unittest.main()
