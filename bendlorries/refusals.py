"""The numbers by which a call is refused."""

NO_SUCH = -2
NOT_STARTED = -11
WOULD_MEET = -17
NOT_AS_TOLD = -22
FULL = -28
NONE_FOUND = -33
