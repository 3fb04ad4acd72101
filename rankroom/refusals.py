"""The first numbers of answers that are refusals."""

BOUND_PASSED = -1
NOT_FITTING = -2
NO_KIND = -3
TOO_MANY_ROWS = -4
NO_SUCH_ROW = -5
TOO_FEW_WORDS = -6
NO_ROW_OF_THE_KIND = -9
