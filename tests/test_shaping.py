"""Point 1: begin, eq, drop, change, allow, turn."""

import unittest

from wording import MOST, answered, last, shown


class Begin(unittest.TestCase):
    def test_one_to_five_unknowns(self):
        for n in range(1, 6):
            self.assertEqual(answered(("begin", n), ("ways",), ("all",)), [[0], [3 ** n], [0] + [7] * n])

    def test_what_is_not_right(self):
        for n in (0, 6, 255, 256, MOST):
            self.assertEqual(answered(("begin", n)), [[-22]])

    def test_a_begin_after_a_begin_begins_anew(self):
        calls = (("begin", 2), ("eq", [2, 2, 2]), ("eq", [0, 1, 2]), ("allow", 0, 1), ("allow", 1, 2))
        self.assertEqual(answered(*calls, ("begin", 2), ("drop", 0), ("ways",), ("all",), ("eq", [1, 1, 1]))[5:],
                         [[0], [-2], [9], [0, 7, 7], [0]])
        self.assertEqual(answered(*calls, ("begin", 3), ("may", 2), ("all",))[5:], [[0], [7], [0, 7, 7, 7]])
        self.assertEqual(answered(*calls, ("begin", 1), ("may", 1), ("all",))[5:], [[0], [-2], [0, 7]])

    def test_a_refused_begin_leaves_all(self):
        calls = (("begin", 2), ("eq", [2, 0, 1]), ("allow", 1, 3))
        for n in (0, 6, MOST):
            self.assertEqual(shown(2, 1, *calls, ("begin", n)), ([[2, 0, 1]], [7, 3]))


class Eq(unittest.TestCase):
    def test_numbers_rise_from_none_to_five(self):
        self.assertEqual(answered(("begin", 1), *[("eq", [1, 1])] * 7), [[0], [0], [1], [2], [3], [4], [-28], [-28]])

    def test_the_signs_are_kept_in_order(self):
        for n in range(1, 6):
            first = [(j + 1) % 3 for j in range(n + 1)]
            second = [(2 * j) % 3 for j in range(n + 1)]
            self.assertEqual(shown(n, 2, ("begin", n), ("eq", first), ("eq", second)), ([first, second], [7] * n))

    def test_a_list_of_another_length(self):
        for n in range(1, 6):
            for length in [*range(0, 9), 254, 255]:
                expected = [0] if length == n + 1 else [-22]
                self.assertEqual(last(("begin", n), ("eq", [1] * length)), expected)

    def test_what_is_no_sign(self):
        for j in range(3):
            for number in (3, 4, 7, 255, MOST):
                signs = [2, 2, 2]
                signs[j] = number
                self.assertEqual(last(("begin", 2), ("eq", signs)), [-22])

    def test_not_right_comes_ahead_of_too_many(self):
        calls = (("begin", 1), *[("eq", [1, 1])] * 5)
        self.assertEqual(last(*calls, ("eq", [1, 3])), [-22])
        self.assertEqual(last(*calls, ("eq", [1])), [-22])
        self.assertEqual(last(*calls, ("eq", [])), [-22])
        self.assertEqual(last(*calls, ("eq", [1, 1, 1])), [-22])
        self.assertEqual(last(*calls, ("eq", [1, 1])), [-28])

    def test_two_equations_alike_are_two(self):
        calls = (("begin", 1), ("eq", [2, 0]), ("eq", [2, 0]))
        self.assertEqual(answered(*calls, ("ways",), ("change", 0, 1, 2), ("ways",), ("change", 1, 1, 2), ("all",)),
                         [[0], [0], [1], [1], [0], [0], [0], [1, 4]])


class Drop(unittest.TestCase):
    CALLS = (("begin", 1), ("eq", [0, 0]), ("eq", [1, 2]), ("eq", [2, 1]))

    def test_those_behind_are_one_less(self):
        self.assertEqual(shown(1, 2, *self.CALLS, ("drop", 0)), ([[1, 2], [2, 1]], [7]))
        self.assertEqual(shown(1, 2, *self.CALLS, ("drop", 1)), ([[0, 0], [2, 1]], [7]))
        self.assertEqual(shown(1, 2, *self.CALLS, ("drop", 2)), ([[0, 0], [1, 2]], [7]))

    def test_how_many_there_are(self):
        self.assertEqual(answered(*self.CALLS, ("drop", 0), ("drop", 1), ("drop", 1), ("drop", 0), ("drop", 0))[4:],
                         [[2], [1], [-2], [0], [-2]])

    def test_no_such_equation(self):
        for e in (3, 4, 5, MOST):
            self.assertEqual(last(*self.CALLS, ("drop", e)), [-2])
        self.assertEqual(last(("begin", 1), ("drop", 0)), [-2])

    def test_one_more_fits_in_again(self):
        self.assertEqual(answered(("begin", 1), *[("eq", [2, 2])] * 5, ("eq", [2, 2]), ("drop", 2), ("eq", [0, 0]),
                                  ("eq", [2, 2]))[6:], [[-28], [4], [4], [-28]])

    def test_it_is_none_any_more(self):
        self.assertEqual(answered(("begin", 1), ("eq", [1, 2]), ("ways",), ("drop", 0), ("ways",))[2:], [[0], [0], [3]])


class Change(unittest.TestCase):
    CALLS = (("begin", 2), ("eq", [0, 1, 2]), ("eq", [2, 0, 1]))

    def test_what_it_was_and_what_it_is(self):
        for e, j, was in ((0, 0, 0), (0, 1, 1), (0, 2, 2), (1, 0, 2), (1, 1, 0), (1, 2, 1)):
            for sign in range(3):
                calls = (*self.CALLS, ("change", e, j, sign))
                expected = [[0, 1, 2], [2, 0, 1]]
                expected[e][j] = sign
                self.assertEqual(last(*calls), [was])
                self.assertEqual(shown(2, 2, *calls), (expected, [7, 7]))

    def test_the_right_side(self):
        self.assertEqual(answered(("begin", 1), ("eq", [2, 2]), ("may", 0), ("change", 0, 1, 0), ("may", 0),
                                  ("change", 0, 1, 1), ("may", 0))[2:], [[4], [2], [1], [0], [2]])

    def test_no_such_one(self):
        for e, j in ((2, 0), (MOST, 0), (0, 3), (0, MOST), (2, 3), (MOST, MOST)):
            for sign in (0, 2, 3, MOST):
                self.assertEqual(last(*self.CALLS, ("change", e, j, sign)), [-2])
        self.assertEqual(last(("begin", 2), ("change", 0, 0, 0)), [-2])

    def test_what_is_no_sign(self):
        for sign in (3, 4, 255, MOST):
            for j in range(3):
                self.assertEqual(last(*self.CALLS, ("change", 1, j, sign)), [-22])

    def test_only_that_equation_of_two_alike(self):
        self.assertEqual(shown(1, 2, ("begin", 1), ("eq", [2, 2]), ("eq", [2, 2]), ("change", 0, 0, 0)),
                         ([[0, 2], [2, 2]], [7]))


class Allow(unittest.TestCase):
    def test_which_it_might(self):
        calls = [("begin", 2)] + [("allow", 1, signs) for signs in (1, 2, 3, 4, 5, 6, 7, 1)]
        self.assertEqual(answered(*calls), [[0], [7], [1], [2], [3], [4], [5], [6], [7]])

    def test_these_alone(self):
        for signs in range(1, 8):
            self.assertEqual(answered(("begin", 2), ("allow", 1, signs), ("may", 0), ("may", 1), ("ways",))[2:],
                             [[7], [signs], [3 * bin(signs).count("1")]])

    def test_no_such_unknown(self):
        for j in (2, 3, 5, MOST):
            for signs in (0, 1, 7, 8, MOST):
                self.assertEqual(last(("begin", 2), ("eq", [1, 1, 1]), ("allow", j, signs)), [-2])

    def test_what_is_not_right(self):
        for signs in (0, 8, 9, 255, MOST):
            for j in range(2):
                self.assertEqual(last(("begin", 2), ("allow", j, signs)), [-22])

    def test_none_alone(self):
        calls = (("begin", 2), ("allow", 0, 2), ("eq", [2, 2, 2]))
        self.assertEqual(answered(*calls, ("all",), ("ways",), ("nth", 0))[3:], [[2, 2, 4], [1], [2, 1, 2]])

    def test_a_new_equation_leaves_it(self):
        self.assertEqual(last(("begin", 1), ("allow", 0, 3), ("eq", [1, 1]), ("drop", 0), ("allow", 0, 1)), [3])


class Turn(unittest.TestCase):
    CALLS = (("begin", 2), ("eq", [0, 1, 2]), ("eq", [2, 0, 1]), ("eq", [1, 2, 0]), ("allow", 0, 3), ("allow", 1, 4))

    def test_in_all_equations_and_what_it_may_have(self):
        self.assertEqual(shown(2, 3, *self.CALLS, ("turn", 0)), ([[2, 1, 2], [0, 0, 1], [1, 2, 0]], [6, 4]))
        self.assertEqual(shown(2, 3, *self.CALLS, ("turn", 1)), ([[0, 1, 2], [2, 2, 1], [1, 0, 0]], [3, 1]))

    def test_in_how_many_equations_it_is_not_none(self):
        self.assertEqual(last(*self.CALLS, ("turn", 0)), [2])
        self.assertEqual(last(*self.CALLS, ("turn", 1)), [2])
        self.assertEqual(last(*self.CALLS, ("change", 2, 0, 0), ("turn", 0)), [3])
        self.assertEqual(last(("begin", 1), ("eq", [1, 2]), ("turn", 0)), [0])
        self.assertEqual(last(("begin", 1), ("turn", 0)), [0])
        self.assertEqual(last(("begin", 1), *[("eq", [0, 1])] * 5, ("turn", 0)), [5])

    def test_each_set_turned(self):
        for signs, turned in ((1, 4), (2, 2), (3, 6), (4, 1), (5, 5), (6, 3), (7, 7)):
            self.assertEqual(last(("begin", 1), ("allow", 0, signs), ("turn", 0), ("allow", 0, 7)), [turned])

    def test_twice_is_as_it_was(self):
        self.assertEqual(shown(2, 3, *self.CALLS, ("turn", 0), ("turn", 0)), shown(2, 3, *self.CALLS))

    def test_no_such_unknown(self):
        for j in (2, 3, MOST):
            self.assertEqual(last(*self.CALLS, ("turn", j)), [-2])

    def test_the_right_side_is_no_unknown(self):
        self.assertEqual(last(("begin", 1), ("eq", [2, 2]), ("turn", 1)), [-2])

    def test_rows_that_fit_are_turned(self):
        calls = (("begin", 2), ("eq", [2, 0, 2]), ("allow", 0, 6))
        before = answered(*calls, ("ways",), *[("nth", k) for k in range(9)])[3:]
        behind = answered(*calls, ("turn", 0), ("ways",), *[("nth", k) for k in range(9)])[4:]
        self.assertEqual(before[0], behind[0])
        turned = sorted([row[0], 2 - row[1], row[2]] for row in before[1:] if row != [-33])
        self.assertEqual(turned, [row for row in behind[1:] if row != [-33]])
        self.assertEqual(len(turned), before[0][0])


if __name__ == "__main__":
    unittest.main()
