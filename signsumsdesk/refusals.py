"""The numbers that refusals answer."""

NO_SUCH = -2
BEFORE_BEGIN = -11
NOT_RIGHT = -22
TOO_MANY = -28
CANNOT_BE = -33
