"""The numbers by which a call is refused."""

NONE_SUCH = -2
NOT_STARTED = -11
BEGUN = -16
IN_USE = -17
OUT_OF_RANGE = -22
FULL = -28
NOT_POSSIBLE = -33
# The same number: of the crane or a mould, that it isn't used in the minute asked for.
NOT_IN_USE = -33
