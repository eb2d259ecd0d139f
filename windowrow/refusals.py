"""The numbers by which a call is refused."""

NO_SUCH = -2
NOBODY = -6
NOT_STARTED = -11
WRONG = -22
FULL = -28
