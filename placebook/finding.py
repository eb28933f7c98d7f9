"""The calls that tell of kinds: each takes the book and its whole numbers and gives its answer as a list."""

from placebook.kinds import is_closed
from placebook.refusals import WRONG_ARGUMENT


def measure(book, t):
    if not is_closed(book, t):
        return [WRONG_ARGUMENT]
    return [0, book.kinds[t].size, book.kinds[t].alignment]
