"""The numbers that refusals answer."""

NO_SUCH = -2
THERE_IS_NONE = -6
BEFORE_BEGIN = -11
NOT_SQUARE = -16
NOT_RIGHT = -22
TOO_MANY = -28
CANNOT_BE = -33
