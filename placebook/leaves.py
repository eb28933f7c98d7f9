"""The calls 9 and 10, leaf and leaf at, and how many leaves a kind has.

Kinds may lie deep within one another and be very large: both calls go down from part to part in a loop, and pass over
the parts ahead by their counts of leaves.
"""

from placebook.kinds import Array, BitField, Record, is_closed
from placebook.refusals import NO_LEAF, WRONG_ARGUMENT


class Part:
    """A part of a kind: its own kind, place and width in bits, the leaves ahead of it, and if it has parts itself."""

    def __init__(self, kind, place, width, passed, divided):
        self.kind = kind
        self.place = place
        self.width = width
        self.passed = passed
        self.divided = divided


def leaf(book, t, k):
    if not is_closed(book, t) or k < 0:
        return [WRONG_ARGUMENT]
    if k >= book.kinds[t].leaf_count:
        return [NO_LEAF]
    part = part_of_kind(book, t, 0, 0)
    while part.divided:
        part = inner_part(book, part, index_of_leaf(book, book.kinds[part.kind], k - part.passed))
    return [0, part.place, part.width, part.kind]


def leaf_at(book, t, byte):
    if not is_closed(book, t) or byte < 0:
        return [WRONG_ARGUMENT]
    if byte >= book.kinds[t].size:
        return [NO_LEAF]
    part = part_of_kind(book, t, 0, 0)
    while part.divided:
        # Bit-fields alone begin within a byte, and they have no parts.
        index = index_of_byte(book, book.kinds[part.kind], byte - part.place // 8)
        if index is None:
            return [NO_LEAF]
        part = inner_part(book, part, index)
    return [0, part.passed]


def record_leaf_count(book, record):
    if record.is_union:
        return 1 if record.size > 0 else 0
    return leaves_ahead(book, record, len(record.members))


def leaves_ahead(book, record, m):
    return sum([member_leaf_count(book, one) for one in record.members[:m]])


def member_leaf_count(book, one):
    if isinstance(one, BitField):
        return 1 if one.named else 0
    return book.kinds[one.kind].leaf_count


def part_of_kind(book, t, place, passed):
    kind = book.kinds[t]
    divided = isinstance(kind, Array) or isinstance(kind, Record) and not kind.is_union
    return Part(t, place, 8 * kind.size, passed, divided)


def inner_part(book, part, index):
    kind = book.kinds[part.kind]
    if isinstance(kind, Array):
        each = book.kinds[kind.kind]
        return part_of_kind(book, kind.kind, part.place + 8 * each.size * index, part.passed + each.leaf_count * index)
    one = kind.members[index]
    place = part.place + one.place
    passed = part.passed + leaves_ahead(book, kind, index)
    if isinstance(one, BitField):
        return Part(one.kind, place, one.width, passed, False)
    return part_of_kind(book, one.kind, place, passed)


def index_of_leaf(book, kind, k):
    """In which part of an array or structure its leaf k lies; it must have one."""
    if isinstance(kind, Array):
        return k // book.kinds[kind.kind].leaf_count
    index = 0
    passed = member_leaf_count(book, kind.members[0])
    while passed <= k:
        index += 1
        passed += member_leaf_count(book, kind.members[index])
    return index


def index_of_byte(book, kind, byte):
    """In which part of an array or structure the first leaf with a bit of its byte may lie; None if in none."""
    if isinstance(kind, Array):
        return byte // book.kinds[kind.kind].size
    for index, one in enumerate(kind.members):
        # Bit-fields may share the byte, and the first with a name is told; a member of a kind has its bytes for itself.
        if member_leaf_count(book, one) > 0 and has_bit_of(one, byte):
            return index
    return None


def has_bit_of(one, byte):
    return one.place < 8 * byte + 8 and 8 * byte < one.place + one.width
