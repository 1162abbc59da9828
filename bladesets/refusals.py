"""The numbers by which a call is refused."""

NO_SUCH = -2
NOT_STARTED = -11
NOT_EVEN = -13
NOT_FREE = -16
WRONG = -22
FULL = -28
NONE_LEFT = -33
TOO_MUCH = -62
