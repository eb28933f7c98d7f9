"""The numbers that refused calls answer."""

WRONG_ARGUMENT = -1
BOOK_FULL = -2
TOO_LARGE = -3
NOT_SUITED = -4
