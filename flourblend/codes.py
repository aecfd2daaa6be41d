"""The codes that stand for an error in an answer."""

NO_INSTANCE = -11
NO_SUCH_BIN = -2
OUT_OF_RANGE = -22
TOO_MANY_BINS = -28
TOO_LITTLE_FLOUR = -6
NOT_VALID = -33
