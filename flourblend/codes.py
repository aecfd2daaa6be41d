"""The codes that an answer tells: of an error, and of an obstacle."""

NO_INSTANCE = -11
NO_SUCH_BIN = -2
OUT_OF_RANGE = -22
TOO_MANY_BINS = -28
TOO_LITTLE_FLOUR = -6
NOT_VALID = -33

NO_OBSTACLE = 0
NO_BLEND = 1
TOO_WEAK = 2
TOO_STRONG = 3
TOO_MUCH_ASH = 4
NONE_VALID = 5
