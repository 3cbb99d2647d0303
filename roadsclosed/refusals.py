"""The numbers by which a call is refused."""

NO_SUCH = -2
WRONG = -22
FULL = -28
NO_WAY = -33
NOT_BEGUN = -61
