"""The call 5, bits."""

import unittest

from placebook.building import begin as book_begin, bits as book_bits, member as book_member, scalar as book_scalar
from placebook.kinds import Book
from tests.helper import FAR, LIMIT, array, begin, bits, close, last, measure, measured, member, run, scalar

# Kinds 0 to 3: a scalar of 1, 2, 4, 8 bytes; 4: a structure; 5: a union.
BASE = [scalar(1, 1), scalar(2, 2), scalar(4, 4), scalar(8, 8), begin(0), begin(1)]


def structure(*calls):
    return measured(BASE, 4, list(calls))


def union(*calls):
    return measured(BASE, 5, list(calls))


def places(*fields):
    """The bits at which these (u, width, named) begin in a structure."""
    book = Book()
    for size in (1, 2, 4, 8):
        book_scalar(book, size, size)
    book_begin(book, 0)
    for u, width, named in fields:
        book_bits(book, 4, u, width, named)
    return [field.place for field in book.kinds[4].members]


class Places(unittest.TestCase):
    def test_the_very_next_bit(self):
        self.assertEqual(places((2, 3, 1), (2, 5, 1), (2, 24, 1)), [0, 3, 8])
        self.assertEqual(structure(bits(4, 2, 3), bits(4, 2, 5), bits(4, 2, 24)), [0, 4, 4])

    def test_the_next_stretch(self):
        self.assertEqual(places((2, 3, 1), (2, 30, 1)), [0, 32])
        self.assertEqual(structure(bits(4, 2, 3), bits(4, 2, 30)), [0, 8, 4])
        self.assertEqual(places((0, 5, 1), (0, 3, 1), (0, 1, 1)), [0, 5, 8])
        self.assertEqual(places((0, 5, 1), (0, 4, 1)), [0, 8])
        self.assertEqual(places((2, 32, 1), (2, 32, 1), (2, 1, 1)), [0, 32, 64])

    def test_stretches_of_every_size_behind_one_another(self):
        self.assertEqual(places((0, 7, 1), (1, 9, 1), (2, 16, 1), (3, 32, 1)), [0, 7, 16, 32])
        self.assertEqual(places((0, 7, 1), (1, 10, 1), (2, 7, 1), (3, 32, 1)), [0, 16, 32, 64])
        self.assertEqual(places((3, 33, 1), (2, 31, 1), (1, 1, 1), (0, 7, 1)), [0, 33, 64, 65])
        self.assertEqual(places((3, 60, 1), (0, 4, 1), (0, 8, 1), (1, 9, 1)), [0, 60, 64, 80])

    def test_stretches_are_cut_from_the_beginning_of_the_structure(self):
        # Byte 1 on: bits 8 to 31 are still in the first stretch of 4 bytes.
        self.assertEqual(structure(member(4, 0), bits(4, 2, 24)), [0, 4, 4])
        self.assertEqual(structure(member(4, 0), bits(4, 2, 25)), [0, 8, 4])
        self.assertEqual(structure(member(4, 0), bits(4, 3, 56)), [0, 8, 8])
        self.assertEqual(structure(member(4, 0), bits(4, 3, 57)), [0, 16, 8])

    def test_whole_stretch(self):
        for u in (0, 1, 2, 3):
            size = 2 ** u
            self.assertEqual(structure(bits(4, u, 8 * size)), [0, size, size])
            self.assertEqual(structure(bits(4, u, 8 * size), bits(4, u, 1)), [0, 2 * size, size])

    def test_size_goes_up_to_whole_bytes(self):
        for width, size in ((1, 1), (8, 1), (9, 2), (16, 2), (17, 3), (33, 5), (64, 8)):
            self.assertEqual(structure(bits(4, 3, width, 0)), [0, size, 1])

    def test_kept_with_the_members(self):
        book = Book()
        book_scalar(book, 4, 4)
        book_scalar(book, 1, 1)
        book_begin(book, 0)
        book_bits(book, 2, 0, 9, 1)
        book_member(book, 2, 1, 4)
        book_bits(book, 2, 0, 5, 0)
        found = [(one.kind, one.alignment, one.place, one.width) for one in book.kinds[2].members]
        self.assertEqual(found, [(0, 4, 0, 9), (1, 4, 32, 8), (0, 1, 40, 5)])
        self.assertEqual([book.kinds[2].members[k].named for k in (0, 2)], [True, False])


class WidthZero(unittest.TestCase):
    def test_goes_to_the_next_stretch(self):
        self.assertEqual(places((0, 1, 1), (2, 0, 0), (0, 1, 1)), [0, 32, 32])
        self.assertEqual(structure(bits(4, 0, 1), bits(4, 2, 0, 0), bits(4, 0, 1)), [0, 5, 1])
        self.assertEqual(places((3, 33, 1), (1, 0, 0), (3, 1, 1)), [0, 48, 48])

    def test_stays_where_a_stretch_begins(self):
        self.assertEqual(places((2, 0, 0), (0, 1, 1)), [0, 0])
        self.assertEqual(places((2, 32, 1), (2, 0, 0), (2, 0, 0), (2, 1, 1)), [0, 32, 32, 32])
        self.assertEqual(places((2, 32, 1), (3, 0, 0), (2, 1, 1)), [0, 64, 64])

    def test_used_goes_up_to_where_it_lies(self):
        self.assertEqual(structure(bits(4, 0, 1), bits(4, 3, 0, 0)), [0, 8, 1])
        self.assertEqual(structure(member(4, 0), bits(4, 2, 0, 0), member(4, 0)), [0, 5, 1])

    def test_alone(self):
        self.assertEqual(structure(bits(4, 3, 0, 0)), [0, 0, 1])


class Names(unittest.TestCase):
    def test_named_ones_count_for_the_alignment(self):
        for u in (0, 1, 2, 3):
            size = 2 ** u
            self.assertEqual(structure(bits(4, u, 1, 1)), [0, size, size])
            self.assertEqual(structure(bits(4, u, 1, 0)), [0, 1, 1])
            self.assertEqual(structure(bits(4, u, 0, 0)), [0, 0, 1])

    def test_without_a_name_it_takes_room(self):
        self.assertEqual(places((0, 3, 0), (0, 5, 1), (0, 1, 0), (0, 8, 1)), [0, 3, 8, 16])
        self.assertEqual(structure(bits(4, 2, 20, 0), member(4, 0)), [0, 4, 1])


class InUnion(unittest.TestCase):
    def test_lies_at_the_beginning(self):
        self.assertEqual(union(bits(5, 0, 5), bits(5, 0, 5)), [0, 1, 1])
        self.assertEqual(union(bits(5, 2, 32), bits(5, 2, 32), bits(5, 0, 1)), [0, 4, 4])
        self.assertEqual(union(bits(5, 2, 17, 0), bits(5, 0, 3)), [0, 3, 1])
        self.assertEqual(union(bits(5, 2, 17, 0), bits(5, 1, 3)), [0, 4, 2])

    def test_width_zero(self):
        self.assertEqual(union(bits(5, 0, 5), bits(5, 3, 0, 0)), [0, 1, 1])
        self.assertEqual(union(bits(5, 3, 0, 0)), [0, 0, 1])

    def test_among_members(self):
        self.assertEqual(union(member(5, 1), bits(5, 2, 3)), [0, 4, 4])
        self.assertEqual(union(member(5, 1), bits(5, 2, 3, 0)), [0, 2, 2])


class NotSuited(unittest.TestCase):
    def test_width_zero_with_a_name(self):
        for t in (4, 5):
            for u in (0, 1, 2, 3):
                self.assertEqual(last(BASE + [bits(t, u, 0, 1)]), [-4])

    def test_width_too_large_or_negative(self):
        for t in (4, 5):
            for u in (0, 1, 2, 3):
                for width in (-FAR, -1, 8 * 2 ** u + 1, FAR):
                    for named in (0, 1):
                        self.assertEqual(last(BASE + [bits(t, u, width, named)]), [-4])

    def test_u_is_no_scalar(self):
        calls = [scalar(4, 4), array(0, 1), begin(0), member(2, 0), close(2), begin(1), close(3), begin(0)]
        for u in (1, 2, 3):
            for width, named in ((1, 1), (1, 0), (0, 0)):
                self.assertEqual(last(calls + [bits(4, u, width, named)]), [-4])
        self.assertEqual(last(calls + [bits(4, 0, 1)]), [0, 0])

    def test_size_is_not_the_alignment(self):
        for size in (2, 4, 8, 16):
            for alignment in (1, 2, 4, 8):
                if alignment < size:
                    calls = [scalar(size, alignment), begin(0)]
                    self.assertEqual(last(calls + [bits(1, 0, 1)]), [-4])
                    self.assertEqual(last(calls + [bits(1, 0, 0, 0)]), [-4])

    def test_16_bytes(self):
        for width, named in ((1, 1), (64, 1), (128, 0), (0, 0)):
            self.assertEqual(last([scalar(16, 16), begin(0), bits(1, 0, width, named)]), [-4])


class WrongArguments(unittest.TestCase):
    def test_t(self):
        for t in (-FAR, -1, 0, 6, FAR):
            self.assertEqual(last(BASE + [bits(t, 0, 1)]), [-1])
        for t in (4, 5):
            self.assertEqual(last(BASE + [close(t), bits(t, 0, 1)]), [-1])

    def test_u(self):
        for u in (-FAR, -1, 4, 5, 6, FAR):
            self.assertEqual(last(BASE + [bits(4, u, 1)]), [-1])

    def test_named(self):
        for named in (-FAR, -1, 2, FAR):
            self.assertEqual(last(BASE + [bits(4, 0, 1, named)]), [-1])

    def test_ahead_of_not_suited(self):
        for call in (bits(4, 0, 99, 2), bits(9, 0, 99, 0), bits(4, 9, -1, 0), bits(4, 0, 0, 3), bits(4, 4, 0, 1)):
            self.assertEqual(last(BASE + [call]), [-1])


class Full(unittest.TestCase):
    def test_the_512th_and_the_one_after_it(self):
        answered = run(BASE + [bits(4, 0, 1)] * 513 + [close(4), measure(4)])
        self.assertEqual(answered[-4:], [[0, 511], [-2], [0], [0, 64, 1]])

    def test_too_large(self):
        before = [scalar(1, 1), scalar(4, 4), array(0, LIMIT - 1), begin(0), member(3, 2)]
        calls = [bits(3, 1, 4), bits(3, 1, 5), bits(3, 0, 4), bits(3, 0, 1), bits(3, 1, 0, 0), close(3), measure(3)]
        answered = run(before + calls)[len(before):]
        self.assertEqual(answered, [[0, 1], [-3], [0, 2], [-3], [0, 3], [0], [0, LIMIT, 4]])

    def test_order_of_refusals(self):
        before = [scalar(1, 1), array(0, LIMIT), begin(0), member(2, 1)]
        self.assertEqual(run(before + [bits(2, 0, 1), bits(2, 0, 9), bits(2, 1, 1)])[-3:], [[-3], [-4], [-4]])
        full = before + [begin(1)] + [bits(3, 0, 1)] * 511
        calls = [bits(2, 0, 1), bits(2, 0, 9), bits(2, 0, 0, 1), bits(2, 0, 9, 2), bits(2, 0, 0, 0)]
        self.assertEqual(run(full + calls)[len(full) - 1:], [[0, 510], [-2], [-4], [-4], [-1], [-2]])


if __name__ == "__main__":
    unittest.main()
