"""The numbers that stand for refusals."""

OUT_OF_RANGE = -1
FULL = -2
UNFIT = -3
TAKEN = -4
MISSING = -5
