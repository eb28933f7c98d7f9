"""The calls 1 to 6, which make kinds: each takes the book and its whole numbers and gives its answer as a list."""

from placebook.kinds import Array, BitField, Member, Record, Scalar, is_closed, is_unclosed
from placebook.layout import bit_field_place, member_place, record_size, used_with
from placebook.leaves import record_leaf_count
from placebook.refusals import BOOK_FULL, NOT_SUITED, TOO_LARGE, WRONG_ARGUMENT

MOST_KINDS = 256
MOST_MEMBERS = 512
MOST_BYTES = 1099511627776
MOST_BIT_FIELD_BYTES = 8
SCALAR_SIZES = (1, 2, 4, 8, 16)
MEMBER_ALIGNMENTS = (0, 1, 2, 4, 8, 16, 32, 64, 128, 256, 512, 1024, 2048, 4096)


def scalar(book, size, alignment):
    if size not in SCALAR_SIZES or alignment not in SCALAR_SIZES or alignment > size:
        return [WRONG_ARGUMENT]
    return add_kind(book, Scalar(size, alignment))


def array(book, t, count):
    if not is_closed(book, t) or count < 0:
        return [WRONG_ARGUMENT]
    each = book.kinds[t]
    size = each.size * count
    # Of this call alone the size is looked at before the room in the book.
    if size > MOST_BYTES:
        return [TOO_LARGE]
    return add_kind(book, Array(t, count, size, each.alignment, each.leaf_count * count))


def begin(book, is_union):
    if is_union not in (0, 1):
        return [WRONG_ARGUMENT]
    return add_kind(book, Record(is_union == 1))


def member(book, t, u, alignment):
    if not is_unclosed(book, t) or not is_closed(book, u) or alignment not in MEMBER_ALIGNMENTS:
        return [WRONG_ARGUMENT]
    own = book.kinds[u]
    whole = max(own.alignment, alignment)
    place = member_place(book.kinds[t], whole)
    return add_member(book, t, Member(u, whole, place, 8 * own.size))


def bits(book, t, u, width, named):
    if not is_unclosed(book, t) or not is_closed(book, u) or named not in (0, 1):
        return [WRONG_ARGUMENT]
    if not has_bit_fields(book.kinds[u]) or not is_width(book.kinds[u], width, named):
        return [NOT_SUITED]
    size = book.kinds[u].size
    place = bit_field_place(book.kinds[t], size, width)
    # An alignment of 1 changes no record's: so one without a name doesn't count.
    alignment = size if named == 1 else 1
    return add_member(book, t, BitField(u, alignment, place, width, named == 1))


def close(book, t):
    if not is_unclosed(book, t):
        return [WRONG_ARGUMENT]
    record = book.kinds[t]
    record.leaf_count = record_leaf_count(book, record)
    record.closed = True
    return [0]


def add_kind(book, kind):
    if len(book.kinds) == MOST_KINDS:
        return [BOOK_FULL]
    book.kinds.append(kind)
    return [0, len(book.kinds) - 1]


def add_member(book, t, added):
    if book.member_count == MOST_MEMBERS:
        return [BOOK_FULL]
    record = book.kinds[t]
    used = used_with(record, added)
    alignment = max(record.alignment, added.alignment)
    size = record_size(used, alignment)
    if size > MOST_BYTES:
        return [TOO_LARGE]
    record.used = used
    record.alignment = alignment
    record.size = size
    record.members.append(added)
    book.member_count += 1
    return [0, len(record.members) - 1]


def has_bit_fields(kind):
    return isinstance(kind, Scalar) and kind.size == kind.alignment and kind.size <= MOST_BIT_FIELD_BYTES


def is_width(kind, width, named):
    return 0 <= width <= 8 * kind.size and not (width == 0 and named == 1)
