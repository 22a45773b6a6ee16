"""The calls as they stand in one list of whole numbers: their numbers, and what is given with each."""

BEGIN = 0
EQ = 1
DROP = 2
CHANGE = 3
ALLOW = 4
TURN = 5
SUM = 6
PRODUCT = 7
MAY = 8
ALL = 9
WAYS = 10
NTH = 11
FITS = 12
WHY = 13
SPARE = 14
SPARES = 15
DET = 16
TERM = 17
MINOR = 18
SOLVED = 19
SOLUTION = 20
LOOK = 21
STATE = 22

# By a call's number, how many whole numbers it has; the calls in LISTED have one list in their place.
HOW_MANY = (1, 0, 1, 3, 2, 1, 2, 2, 1, 0, 0, 1, 0, 0, 1, 0, 0, 0, 2, 1, 0, 1, 0)
LISTED = (1, 12, 13)


class Reader:
    """A place in the list of calls, which is read from there on and never changed."""

    def __init__(self, calls):
        self.calls = calls
        self.place = 0

    def has_more(self):
        """Whether there is a number that has not been taken."""
        return self.place < len(self.calls)

    def take(self):
        """The number at the place, which goes on by one."""
        number = self.calls[self.place]
        self.place = self.place + 1
        return number

    def take_many(self, how_many):
        """So many numbers from the place on, which goes on behind them."""
        numbers = self.calls[self.place:self.place + how_many]
        self.place = self.place + how_many
        return numbers


def take_given(reader, call):
    """What is given with the call whose number has been taken: its whole numbers, or its list."""
    if call in LISTED:
        return reader.take_many(reader.take())
    return reader.take_many(HOW_MANY[call])
