"""The numbers that refused calls answer."""

WRONG_ARGUMENT = -1
BOOK_FULL = -2
TOO_LARGE = -3
NOT_SUITED = -4
NO_LEAF = -5
TOO_FEW_BYTES = -6
TOO_MANY_BITS = -7
