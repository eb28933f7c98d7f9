"""The calls 11 and 12, read and write: a member's bits in an object's bytes."""

from placebook.kinds import Scalar, has_member, is_closed
from placebook.refusals import NOT_SUITED, TOO_FEW_BYTES, TOO_MANY_BITS, WRONG_ARGUMENT

MOST_ROW_BYTES = 64
MOST_MEMBER_BITS = 64


def read(book, t, m, row):
    refused = refusal(book, t, m, row)
    if refused < 0:
        return [refused]
    one = book.kinds[t].members[m]
    return [0, (row_number(row) >> one.place) & ones(one.width)]


def write(book, t, m, v, row):
    # A wrong v goes ahead of whatever else is refused.
    refused = WRONG_ARGUMENT if v < 0 else refusal(book, t, m, row)
    if refused < 0:
        return [refused]
    one = book.kinds[t].members[m]
    if v.bit_length() > one.width:
        return [TOO_MANY_BITS]
    others = row_number(row) & ~(ones(one.width) << one.place)
    return [0] + number_row(others | (v << one.place), len(row))


def refusal(book, t, m, row):
    """Why a member can't be read or written in this row; 0 if it can."""
    if not is_closed(book, t) or not has_member(book, t, m) or not is_byte_row(row):
        return WRONG_ARGUMENT
    if not is_number(book, book.kinds[t].members[m]):
        return NOT_SUITED
    if len(row) < book.kinds[t].size:
        return TOO_FEW_BYTES
    return 0


def is_byte_row(row):
    return len(row) <= MOST_ROW_BYTES and all([0 <= byte <= 255 for byte in row])


def is_number(book, one):
    # A bit-field is of a scalar too: what's left out is one of 0 bits and a scalar of 16 bytes.
    return isinstance(book.kinds[one.kind], Scalar) and 0 < one.width <= MOST_MEMBER_BITS


def ones(width):
    return (1 << width) - 1


def row_number(row):
    number = 0
    for byte in reversed(row):
        number = 256 * number + byte
    return number


def number_row(number, length):
    return [(number >> 8 * k) & 255 for k in range(length)]
