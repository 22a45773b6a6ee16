"""The object that the calls are made on."""

from signsumsdesk.rows import fitting_rows


class Desk:
    """What each unknown may have, and the equations: as many signs as unknowns, then the right side's."""

    def __init__(self):
        self.allowed = []
        self.equations = []

    def has_begun(self):
        """Whether a begin has answered 0: there is at least one unknown from then on."""
        return len(self.allowed) > 0

    def has_unknown(self, j):
        """Whether there is an unknown j."""
        return j < len(self.allowed)

    def has_equation(self, e):
        """Whether there is an equation e."""
        return e < len(self.equations)

    def rows_that_fit(self):
        """The rows of signs that fit, in order."""
        return fitting_rows(self.allowed, self.equations)
