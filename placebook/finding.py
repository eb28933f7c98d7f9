"""The calls 7 and 8, which tell where kinds and members lie: each takes the book and its whole numbers."""

from placebook.kinds import has_member, is_closed
from placebook.refusals import WRONG_ARGUMENT


def measure(book, t):
    if not is_closed(book, t):
        return [WRONG_ARGUMENT]
    return [0, book.kinds[t].size, book.kinds[t].alignment]


def offset(book, t, m):
    if not has_member(book, t, m):
        return [WRONG_ARGUMENT]
    one = book.kinds[t].members[m]
    return [0, one.place, one.width]
