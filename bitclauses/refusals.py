"""The numbers that calls answer when they refuse."""

UNFIT = -1
NO_TERM = -2
NO_NODE = -3
TOO_MANY_INPUT_BITS = -4
FULL = -5
TOO_MANY_NODES = -6
NO_MARK = -7
