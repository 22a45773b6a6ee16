"""The object that the calls are made on."""

from signsumsdesk.rows import fitting_rows
from signsumsdesk.signsets import are_signs


class Desk:
    """What each unknown may have, and the equations: as many signs as unknowns, then the right side's."""

    def __init__(self):
        self.allowed = []
        self.equations = []

    def has_begun(self):
        """Whether a begin has answered 0: there is at least one unknown from then on."""
        return len(self.allowed) > 0

    def has_unknown(self, j):
        """Whether there is an unknown j."""
        return j < len(self.allowed)

    def has_equation(self, e):
        """Whether there is an equation e."""
        return e < len(self.equations)

    def is_square(self):
        """Whether there are as many equations as unknowns."""
        return len(self.equations) == len(self.allowed)

    def is_row(self, numbers):
        """Whether the numbers are one sign for each unknown."""
        return len(numbers) == len(self.allowed) and are_signs(numbers)

    def rows_that_fit(self):
        """The rows of signs that fit, in order."""
        return fitting_rows(self.allowed, self.equations)

    def rows_without(self, e):
        """The rows of signs that fit if equation e is left out, in order."""
        return fitting_rows(self.allowed, self.equations[:e] + self.equations[e + 1:])

    def table(self):
        """Of each equation what stands before the unknowns."""
        return [equation[:-1] for equation in self.equations]

    def table_without(self, e, j):
        """The table without equation e and without unknown j."""
        others = self.equations[:e] + self.equations[e + 1:]
        return [equation[:j] + equation[j + 1:-1] for equation in others]

    def table_with_right_sides(self, j):
        """The table with the right sides in the place of what stands before unknown j."""
        return [equation[:j] + [equation[-1]] + equation[j + 1:-1] for equation in self.equations]
