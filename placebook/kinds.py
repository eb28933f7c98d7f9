"""What a book keeps: its kinds (scalars, arrays, structures, unions) and their members.

A kind's size and alignment are in bytes; a member's place and width, and what is used of a record, in bits.
One kind stands in another by its number in the book.
"""


class Book:
    """The kinds by their numbers, and how many members all of them have."""

    def __init__(self):
        self.kinds = []
        self.member_count = 0


class Kind:
    """What every kind has."""

    def __init__(self, size, alignment, leaf_count, closed):
        self.size = size
        self.alignment = alignment
        self.leaf_count = leaf_count
        self.closed = closed


class Scalar(Kind):
    """A number in memory."""

    def __init__(self, size, alignment):
        Kind.__init__(self, size, alignment, 1, True)


class Array(Kind):
    """So many of one kind, one behind another."""

    def __init__(self, kind, count, size, alignment, leaf_count):
        Kind.__init__(self, size, alignment, leaf_count, True)
        self.kind = kind
        self.count = count


class Record(Kind):
    """A structure or a union; its size and alignment are those of the members that it has so far.

    Its leaves are counted when it is closed.
    """

    def __init__(self, is_union):
        Kind.__init__(self, 0, 1, 0, False)
        self.is_union = is_union
        self.used = 0
        self.members = []


class Member:
    """A member of a kind, in a record."""

    def __init__(self, kind, alignment, place, width):
        self.kind = kind
        self.alignment = alignment
        self.place = place
        self.width = width


class BitField(Member):
    """Some bits of a scalar, in a record."""

    def __init__(self, kind, alignment, place, width, named):
        Member.__init__(self, kind, alignment, place, width)
        self.named = named


def is_closed(book, t):
    return 0 <= t < len(book.kinds) and book.kinds[t].closed


def is_unclosed(book, t):
    return 0 <= t < len(book.kinds) and not book.kinds[t].closed


def has_member(book, t, m):
    if not 0 <= t < len(book.kinds) or not isinstance(book.kinds[t], Record):
        return False
    return 0 <= m < len(book.kinds[t].members)
