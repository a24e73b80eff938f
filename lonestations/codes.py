"""The error codes, written without their sign: they are answered below 0."""

NO_CLASS = 2
NOTHING_THERE = 6
NO_INSTANCE = 11
OUT_OF_RANGE = 22
TOO_MANY_CLASSES = 28
NOT_STABLE = 33
