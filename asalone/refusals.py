"""The numbers that refuse a call."""

WRONG = -1
NO_LOG = -2
STILL_SEEN = -3
NONE_SUCH = -4
CLASH = -5
FULL = -6
NO_SUCH_NUMBER = -7
