"""The error codes that a call can be answered with."""

NO_SUCH = -2
NO_INSTANCE = -11
ALREADY_THERE = -17
OUT_OF_RANGE = -22
FULL = -28
NOT_SERVED = -33
