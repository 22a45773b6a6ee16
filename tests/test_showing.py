"""Point 4: look, state."""

import unittest

from wording import MOST, answered, last, shown


class Look(unittest.TestCase):
    CALLS = (("begin", 2), ("eq", [0, 1, 2]), ("eq", [2, 2, 0]))

    def test_how_many_then_its_signs(self):
        self.assertEqual(answered(*self.CALLS, ("look", 0), ("look", 1))[3:], [[3, 0, 1, 2], [3, 2, 2, 0]])

    def test_one_to_five_unknowns(self):
        for n in range(1, 6):
            signs = [(2 * j + 1) % 3 for j in range(n + 1)]
            self.assertEqual(last(("begin", n), ("eq", [1] * (n + 1)), ("eq", signs), ("look", 1)), [n + 1] + signs)

    def test_no_such_equation(self):
        for e in (2, 3, 5, MOST):
            self.assertEqual(last(*self.CALLS, ("look", e)), [-2])
        self.assertEqual(last(("begin", 2), ("look", 0)), [-2])

    def test_behind_what_changes_it(self):
        told = answered(*self.CALLS, ("change", 0, 2, 1), ("look", 0), ("turn", 0), ("look", 0), ("look", 1), ("drop", 0),
                        ("look", 0), ("look", 1))[3:]
        self.assertEqual(told, [[2], [3, 0, 1, 1], [2], [3, 2, 1, 1], [3, 0, 2, 0], [1], [3, 0, 2, 0], [-2]])

    def test_five_equations(self):
        equations = [[e % 3, (e + 1) % 3] for e in range(5)]
        calls = (("begin", 1), *[("eq", equation) for equation in equations])
        self.assertEqual(answered(*calls, *[("look", e) for e in range(6)])[6:],
                         [[2, *signs] for signs in equations] + [[-2]])


class State(unittest.TestCase):
    def test_behind_a_begin(self):
        for n in range(1, 6):
            self.assertEqual(last(("begin", n), ("state",)), [n, 0] + [7] * n)

    def test_unknowns_equations_and_sets(self):
        calls = (("begin", 3), ("eq", [1, 1, 1, 2]), ("allow", 0, 1), ("allow", 2, 6))
        self.assertEqual(last(*calls, ("state",)), [3, 1, 1, 7, 6])
        self.assertEqual(last(*calls, ("turn", 2), ("turn", 0), ("state",)), [3, 1, 4, 7, 3])
        self.assertEqual(last(*calls, ("eq", [0, 0, 0, 0]), ("state",)), [3, 2, 1, 7, 6])
        self.assertEqual(last(*calls, ("drop", 0), ("state",)), [3, 0, 1, 7, 6])
        self.assertEqual(last(*calls, ("begin", 2), ("state",)), [2, 0, 7, 7])

    def test_what_they_may_have_not_what_they_have_in_rows_that_fit(self):
        self.assertEqual(answered(("begin", 1), ("eq", [2, 2]), ("all",), ("state",))[2:], [[1, 4], [1, 1, 7]])

    def test_it_goes_on_behind_what_was_told(self):
        calls = (("begin", 1), ("state",), ("allow", 0, 2), ("state",), ("eq", [0, 0]), ("state",), ("look", 0),
                 ("change", 0, 0, 1), ("look", 0))
        self.assertEqual(answered(*calls)[1:], [[1, 0, 7], [7], [1, 0, 2], [0], [1, 1, 2], [2, 0, 0], [0], [2, 1, 0]])

    def test_as_changes_draw_it_out(self):
        calls = (("begin", 2), ("eq", [0, 1, 2]), ("eq", [2, 2, 0]), ("allow", 1, 5), ("turn", 0))
        equations, allowed = shown(2, 2, *calls)
        self.assertEqual(answered(*calls, ("look", 0), ("look", 1), ("state",))[5:],
                         [[3] + equations[0], [3] + equations[1], [2, 2] + allowed])


if __name__ == "__main__":
    unittest.main()
