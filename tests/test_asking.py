"""Point 2: sum, product, may, all, ways, nth, fits, why, spare, spares."""

import unittest

from wording import MOST, PlainDesk, answered, last

BEGUN = ("begin", 1)


class SumAndProduct(unittest.TestCase):
    def test_single_signs(self):
        sums = ((1, 1, 1), (1, 2, 1), (1, 4, 7), (2, 1, 1), (2, 2, 2), (2, 4, 4), (4, 1, 7), (4, 2, 4), (4, 4, 4))
        for a, b, expected in sums:
            self.assertEqual(last(BEGUN, ("sum", a, b)), [expected])
        products = ((1, 1, 4), (1, 2, 2), (1, 4, 1), (2, 1, 2), (2, 2, 2), (2, 4, 2), (4, 1, 1), (4, 2, 2), (4, 4, 4))
        for a, b, expected in products:
            self.assertEqual(last(BEGUN, ("product", a, b)), [expected])

    def test_all_sets_as_whole_numbers_have_it(self):
        plain = PlainDesk()
        plain.begin(1)
        for a in range(8):
            for b in range(8):
                self.assertEqual(last(BEGUN, ("sum", a, b)), [plain.do_sum(a, b)])
                self.assertEqual(last(BEGUN, ("product", a, b)), [plain.do_product(a, b)])

    def test_the_empty_set(self):
        for signs in range(8):
            for name in ("sum", "product"):
                self.assertEqual(last(BEGUN, (name, 0, signs)), [0])
                self.assertEqual(last(BEGUN, (name, signs, 0)), [0])

    def test_what_is_no_set(self):
        for a, b in ((8, 1), (1, 8), (8, 8), (0, 8), (8, 0), (MOST, 7), (7, MOST), (256, 0)):
            for name in ("sum", "product"):
                self.assertEqual(last(BEGUN, (name, a, b)), [-22])

    def test_what_the_object_has_is_not_looked_at(self):
        calls = (("begin", 1), ("eq", [1, 2]), ("allow", 0, 2))
        self.assertEqual(last(*calls, ("sum", 4, 4)), [4])
        self.assertEqual(last(*calls, ("product", 1, 4)), [1])


class Ordinary(unittest.TestCase):
    """x - y comes to something above, and y isn't below: so x is surely above."""

    CALLS = (("begin", 2), ("eq", [2, 0, 2]), ("allow", 1, 6))

    def test_may(self):
        self.assertEqual(answered(*self.CALLS, ("may", 0), ("may", 1))[3:], [[4], [6]])

    def test_all(self):
        self.assertEqual(last(*self.CALLS, ("all",)), [1, 4, 6])

    def test_ways(self):
        self.assertEqual(last(*self.CALLS, ("ways",)), [2])

    def test_nth(self):
        self.assertEqual(answered(*self.CALLS, ("nth", 0), ("nth", 1), ("nth", 2), ("nth", MOST))[3:],
                         [[2, 2, 1], [2, 2, 2], [-33], [-33]])


class Asked(unittest.TestCase):
    def test_may_of_no_such_unknown(self):
        for j in (1, 2, 5, MOST):
            self.assertEqual(last(("begin", 1), ("may", j)), [-2])
            self.assertEqual(last(("begin", 1), ("eq", [1, 2]), ("may", j)), [-2])

    def test_no_row_fits(self):
        calls = (("begin", 2), ("eq", [1, 1, 0]))
        self.assertEqual(answered(*calls, ("may", 0), ("may", 1), ("all",), ("ways",), ("nth", 0), ("nth", MOST))[2:],
                         [[-33], [-33], [-33], [0], [-33], [-33]])

    def test_may_has_a_gap(self):
        calls = (("begin", 2), ("eq", [2, 2, 1]), ("allow", 1, 5))
        self.assertEqual(answered(*calls, ("may", 0), ("all",))[3:], [[5], [0, 5, 5]])

    def test_all_counts_those_with_just_one_sign(self):
        calls = (("begin", 3), ("allow", 0, 1), ("allow", 1, 2), ("allow", 2, 4))
        self.assertEqual(last(*calls, ("all",)), [3, 1, 2, 4])
        self.assertEqual(last(*calls, ("allow", 1, 3), ("all",)), [2, 1, 3, 4])
        self.assertEqual(last(*calls, ("allow", 1, 3), ("allow", 0, 6), ("all",)), [1, 6, 3, 4])

    def test_rows_are_in_order_by_the_first_unknown(self):
        told = answered(("begin", 2), *[("nth", k) for k in range(10)])[1:]
        self.assertEqual(told, [[2, 0, 0], [2, 0, 1], [2, 0, 2], [2, 1, 0], [2, 1, 1], [2, 1, 2], [2, 2, 0], [2, 2, 1],
                                [2, 2, 2], [-33]])

    def test_places_of_five_unknowns(self):
        self.assertEqual(answered(("begin", 5), ("nth", 0), ("nth", 1), ("nth", 81), ("nth", 242), ("nth", 243))[1:],
                         [[5, 0, 0, 0, 0, 0], [5, 0, 0, 0, 0, 1], [5, 1, 0, 0, 0, 0], [5, 2, 2, 2, 2, 2], [-33]])


class FitsAndWhy(unittest.TestCase):
    """x - y comes to something above, x + z to none, and y isn't below."""

    CALLS = (("begin", 3), ("eq", [2, 0, 1, 2]), ("eq", [2, 1, 2, 1]), ("allow", 1, 6))

    def test_it_fits(self):
        for row in ([2, 1, 0], [2, 2, 0]):
            self.assertEqual(answered(*self.CALLS, ("fits", row), ("why", row))[4:], [[1], [-6]])

    def test_an_unknown_may_not_have_its_sign(self):
        for row in ([2, 0, 0], [1, 0, 1], [0, 0, 0]):
            self.assertEqual(answered(*self.CALLS, ("fits", row), ("why", row))[4:], [[0], [0, 1]])

    def test_it_does_not_hold_in_an_equation(self):
        for row, e in (([0, 1, 2], 0), ([1, 1, 1], 0), ([0, 1, 0], 0), ([2, 1, 1], 1), ([2, 2, 2], 1)):
            self.assertEqual(answered(*self.CALLS, ("fits", row), ("why", row))[4:], [[0], [1, e]])

    def test_the_first_unknown(self):
        calls = (("begin", 5), ("allow", 1, 5), ("allow", 3, 4), ("allow", 4, 1))
        self.assertEqual(answered(*calls, ("why", [1, 1, 1, 1, 1]), ("why", [1, 0, 1, 1, 1]), ("why", [1, 2, 1, 2, 1]),
                                  ("why", [1, 2, 1, 2, 0]))[4:], [[0, 1], [0, 3], [0, 4], [-6]])

    def test_the_first_equation(self):
        calls = (("begin", 1), ("eq", [1, 1]), ("eq", [2, 2]), ("eq", [1, 1]), ("eq", [1, 0]), ("eq", [2, 2]))
        self.assertEqual(answered(*calls, ("why", [0]), ("why", [1]), ("why", [2]), ("drop", 3), ("why", [2]))[6:],
                         [[1, 1], [1, 1], [1, 3], [4], [-6]])

    def test_an_unknown_comes_ahead_of_an_equation(self):
        calls = (("begin", 2), ("eq", [1, 1, 2]), ("allow", 1, 3))
        self.assertEqual(answered(*calls, ("why", [2, 2]), ("why", [2, 1]))[3:], [[0, 1], [1, 0]])

    def test_a_list_of_another_length(self):
        for n in range(1, 6):
            for length in range(256):
                told = answered(("begin", n), ("fits", [1] * length), ("why", [2] * length), ("ways",))[1:]
                self.assertEqual(told, [[1], [-6], [3 ** n]] if length == n else [[-22], [-22], [3 ** n]])

    def test_what_is_no_sign(self):
        for j in range(3):
            for number in (3, 4, 7, 255, 256, MOST):
                row = [2, 0, 2]
                row[j] = number
                self.assertEqual(answered(*self.CALLS, ("fits", row), ("why", row))[4:], [[-22], [-22]])

    def test_as_many_signs_as_an_equation_has(self):
        self.assertEqual(answered(("begin", 1), ("eq", [2, 2]), ("fits", [2, 2]), ("why", [2, 2]))[2:], [[-22], [-22]])

    def test_five_unknowns_and_five_equations(self):
        equations = [[2 if i == j else 1 for i in range(5)] + [2 * (j % 2)] for j in range(5)]
        calls = (("begin", 5), *[("eq", equation) for equation in equations])
        self.assertEqual(answered(*calls, ("fits", [0, 2, 0, 2, 0]), ("why", [0, 2, 0, 2, 0]), ("why", [0, 2, 0, 2, 1]),
                                  ("fits", [0, 2, 0, 2, 1]), ("why", [0, 2, 1, 0, 1]))[6:],
                         [[1], [-6], [1, 4], [0], [1, 2]])

    def test_one_unknown(self):
        for before, right, rows in ((2, 2, [2]), (2, 1, [1]), (2, 0, [0]), (1, 2, []), (1, 1, [0, 1, 2]), (0, 2, [0])):
            for sign in range(3):
                told = answered(("begin", 1), ("eq", [before, right]), ("fits", [sign]), ("why", [sign]))[2:]
                self.assertEqual(told, [[1], [-6]] if sign in rows else [[0], [1, 0]])


class Spare(unittest.TestCase):
    def test_two_equations_alike_are_each_spare(self):
        calls = (("begin", 2), ("eq", [2, 0, 2]), ("eq", [2, 0, 2]))
        self.assertEqual(answered(*calls, ("spare", 0), ("spare", 1), ("spares",))[3:], [[1], [1], [2, 0, 1]])
        self.assertEqual(answered(*calls, ("drop", 0), ("spare", 0), ("spares",))[4:], [[0], [0]])

    def test_an_equation_without_any_part_is_spare(self):
        for n in range(1, 6):
            self.assertEqual(answered(("begin", n), ("eq", [1] * (n + 1)), ("spare", 0), ("spares",))[2:], [[1], [1, 0]])

    def test_a_right_side_alone_is_not(self):
        calls = (("begin", 2), ("eq", [1, 1, 2]))
        self.assertEqual(answered(*calls, ("spare", 0), ("spares",))[2:], [[0], [0]])
        self.assertEqual(answered(*calls, ("eq", [1, 1, 0]), ("spare", 0), ("spare", 1), ("spares",))[3:],
                         [[1], [1], [2, 0, 1]])

    def test_all_others_are_spare_beside_what_nothing_fits(self):
        calls = (("begin", 1), ("eq", [2, 2]), ("eq", [1, 0]), ("eq", [0, 1]))
        self.assertEqual(answered(*calls, ("spare", 0), ("spare", 1), ("spare", 2), ("spares",))[4:],
                         [[1], [1], [1], [3, 0, 1, 2]])
        self.assertEqual(answered(*calls, ("drop", 2), ("spare", 0), ("spare", 1), ("spares",))[5:], [[1], [0], [1, 0]])

    def test_what_unknowns_may_have_is_looked_at(self):
        calls = (("begin", 2), ("eq", [2, 2, 2]))
        self.assertEqual(last(*calls, ("spare", 0)), [0])
        self.assertEqual(last(*calls, ("allow", 0, 4), ("allow", 1, 6), ("spare", 0)), [1])
        self.assertEqual(last(*calls, ("allow", 0, 4), ("allow", 1, 7), ("spare", 0)), [1])
        self.assertEqual(last(*calls, ("allow", 0, 6), ("allow", 1, 6), ("spare", 0)), [0])

    def test_an_unknown_that_may_have_none_alone(self):
        self.assertEqual(answered(("begin", 1), ("allow", 0, 2), ("eq", [2, 1]), ("spare", 0), ("spares",))[3:],
                         [[1], [1, 0]])
        self.assertEqual(answered(("begin", 1), ("allow", 0, 2), ("eq", [2, 2]), ("spare", 0), ("spares",))[3:],
                         [[0], [0]])

    def test_rows_as_many_are_not_the_same_rows(self):
        # With the other equation left out as many rows fit as without this one, but they are others.
        calls = (("begin", 1), ("eq", [2, 2]), ("eq", [2, 0]))
        self.assertEqual(answered(*calls, ("spares",), ("spare", 0), ("spare", 1))[3:], [[0], [0], [0]])

    def test_those_that_are_spare_rise(self):
        calls = (("begin", 2), ("eq", [1, 1, 1]), ("eq", [2, 0, 1]), ("eq", [1, 1, 1]), ("eq", [2, 1, 2]), ("eq", [1, 1, 1]))
        self.assertEqual(last(*calls, ("spares",)), [3, 0, 2, 4])
        self.assertEqual(answered(*calls, *[("spare", e) for e in range(6)])[6:], [[1], [0], [1], [0], [1], [-2]])

    def test_no_equations(self):
        self.assertEqual(answered(("begin", 3), ("spares",), ("spare", 0)), [[0], [0], [-2]])

    def test_no_such_equation(self):
        for e in (2, 3, 5, MOST):
            self.assertEqual(last(("begin", 5), *[("eq", [1] * 6)] * 2, ("spare", e)), [-2])

    def test_five_unknowns_and_five_equations(self):
        diagonal = [("eq", [2 if i == j else 1 for i in range(5)] + [2]) for j in range(5)]
        self.assertEqual(answered(("begin", 5), *diagonal, ("spares",), ("change", 4, 4, 1), ("change", 4, 5, 1),
                                  ("spares",))[6:], [[0], [2], [2], [1, 4]])


class Corners(unittest.TestCase):
    def test_one_unknown(self):
        for before, right, rows in ((2, 2, [2]), (2, 1, [1]), (2, 0, [0]), (1, 2, []), (1, 1, [0, 1, 2]), (1, 0, []),
                                    (0, 2, [0]), (0, 1, [1]), (0, 0, [2])):
            told = answered(("begin", 1), ("eq", [before, right]), ("ways",), *[("nth", k) for k in range(3)])[2:]
            self.assertEqual(told[0], [len(rows)])
            self.assertEqual(told[1:], [[1, sign] for sign in rows] + [[-33]] * (3 - len(rows)))

    def test_an_equation_without_any_part(self):
        for n in range(1, 6):
            self.assertEqual(answered(("begin", n), ("eq", [1] * (n + 1)), ("ways",), ("all",))[2:],
                             [[3 ** n], [0] + [7] * n])

    def test_a_right_side_alone(self):
        for n in range(1, 6):
            for right in (0, 2):
                self.assertEqual(answered(("begin", n), ("eq", [1] * n + [right]), ("ways",), ("all",))[2:], [[0], [-33]])

    def test_an_unknown_that_may_have_none_alone(self):
        self.assertEqual(answered(("begin", 1), ("allow", 0, 2), ("eq", [2, 1]), ("all",), ("change", 0, 1, 2), ("all",))[3:],
                         [[1, 2], [1], [-33]])

    def test_two_equations_alike(self):
        once = answered(("begin", 2), ("eq", [2, 0, 0]), ("all",), ("ways",))[2:]
        twice = answered(("begin", 2), ("eq", [2, 0, 0]), ("eq", [2, 0, 0]), ("all",), ("ways",))[3:]
        self.assertEqual(once, [[0, 7, 7], [5]])
        self.assertEqual(twice, once)

    def test_an_equation_that_nothing_fits(self):
        calls = (("begin", 2), ("allow", 0, 4), ("allow", 1, 6), ("eq", [2, 2, 0]))
        self.assertEqual(answered(*calls, ("ways",), ("may", 1), ("nth", 0), ("all",))[4:], [[0], [-33], [-33], [-33]])
        # An unknown turned about is turned in what it may have as well: still nothing fits, until the right side is.
        self.assertEqual(answered(*calls, ("turn", 0), ("turn", 1), ("all",), ("change", 0, 2, 2), ("all",))[4:],
                         [[1], [1], [-33], [0], [1, 1, 3]])

    def test_two_equations_that_no_row_fits_together(self):
        calls = (("begin", 1), ("eq", [2, 2]), ("eq", [2, 0]))
        self.assertEqual(answered(*calls, ("all",), ("drop", 0), ("all",))[3:], [[-33], [1], [1, 1]])


if __name__ == "__main__":
    unittest.main()
