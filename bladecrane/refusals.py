"""The numbers by which a call is refused."""

NONE_SUCH = -2
NOT_STARTED = -11
BEGUN = -16
IN_USE = -17
OUT_OF_RANGE = -22
FULL = -28
NOT_POSSIBLE = -33
