"""The calls 11 and 12, read and write."""

import unittest

from tests.helper import FAR, LIMIT, array, begin, behind, bits, close, last, member, measure, read, run, scalar, write

# Kinds 0 to 4: a scalar of 1, 2, 4, 8, 16 bytes; 5: a structure; 6: a union.
BASE = [scalar(1, 1), scalar(2, 2), scalar(4, 4), scalar(8, 8), scalar(16, 16), begin(0), begin(1)]
COUNT = list(range(1, 65))


def structure(*parts):
    return BASE + list(parts) + [close(5)]


def union(*parts):
    return BASE + list(parts) + [close(6)]


class Read(unittest.TestCase):
    def test_scalars(self):
        before = structure(member(5, 0), member(5, 1), member(5, 2), member(5, 3))
        asked = [read(5, m, COUNT[:16]) for m in range(4)]
        self.assertEqual(behind(before, asked), [[0, 1], [0, 0x0403], [0, 0x08070605], [0, 0x100f0e0d0c0b0a09]])

    def test_scalars_of_lesser_alignment(self):
        before = [scalar(1, 1), scalar(8, 1), begin(0), member(2, 0), member(2, 1), close(2)]
        self.assertEqual(last(before + [read(2, 1, COUNT[:9])]), [0, 0x0908070605040302])

    def test_kind_0(self):
        before = [begin(0), scalar(1, 1), member(0, 1), close(0)]
        self.assertEqual(behind(before, [read(0, 0, [7]), write(0, 0, 8, [7])]), [[0, 7], [0, 8]])

    def test_greatest_and_least(self):
        for u, size in ((0, 1), (1, 2), (2, 4), (3, 8)):
            before = structure(member(5, u))
            self.assertEqual(behind(before, [read(5, 0, [255] * size), read(5, 0, [0] * size)]),
                             [[0, 256 ** size - 1], [0, 0]])

    def test_the_lowest_bit_is_the_first(self):
        before = structure(*[bits(5, 0, 1)] * 8)
        self.assertEqual(behind(before, [read(5, m, [0b10110001]) for m in range(8)]),
                         [[0, bit] for bit in (1, 0, 0, 0, 1, 1, 0, 1)])

    def test_bit_fields_over_several_bytes(self):
        before = structure(bits(5, 3, 3), bits(5, 3, 10), bits(5, 3, 40), bits(5, 3, 11))
        whole = 0x8899aabbccddeeff
        asked = [read(5, m, [0xff, 0xee, 0xdd, 0xcc, 0xbb, 0xaa, 0x99, 0x88]) for m in range(4)]
        self.assertEqual(behind(before, asked), [[0, whole % 8], [0, whole // 2 ** 3 % 2 ** 10],
                                                 [0, whole // 2 ** 13 % 2 ** 40], [0, whole // 2 ** 53]])

    def test_bit_field_that_has_every_bit(self):
        self.assertEqual(last(structure(bits(5, 3, 64)) + [read(5, 0, [255] * 8)]), [0, FAR - 1])

    def test_behind_others(self):
        before = structure(member(5, 0), bits(5, 2, 5), bits(5, 2, 19), member(5, 1))
        asked = [read(5, m, [9, 0xab, 0xcd, 0xef, 0x12, 0x34, 0, 0]) for m in range(4)]
        self.assertEqual(behind(before, asked), [[0, 9], [0, 0x0b], [0, 0xefcdab // 32], [0, 0x3412]])

    def test_without_a_name(self):
        before = structure(bits(5, 2, 3), bits(5, 2, 7, 0))
        self.assertEqual(last(before + [read(5, 1, [0xf8, 0x03, 0, 0])]), [0, 0x7f])
        self.assertEqual(last(before + [read(5, 1, [0x07, 0xfc, 0, 0])]), [0, 0])

    def test_in_a_union(self):
        before = union(member(6, 0), member(6, 3), bits(6, 2, 9), bits(6, 2, 12, 0), bits(6, 2, 0, 0), member(6, 1))
        asked = [read(6, m, [0xff, 0xee, 0xdd, 4, 5, 6, 7, 8]) for m in range(6)]
        self.assertEqual(behind(before, asked), [[0, 0xff], [0, 0x0807060504ddeeff], [0, 0xff], [0, 0xeff], [-4],
                                                 [0, 0xeeff]])

    def test_more_bytes_than_the_size(self):
        before = structure(member(5, 1), bits(5, 0, 3))
        asked = [read(5, m, [1, 2, 7] + [255] * more) for more in (1, 2, 61) for m in (0, 1)]
        self.assertEqual(behind(before, asked), [[0, 0x201], [0, 7]] * 3)

    def test_the_last_of_64_bytes(self):
        before = structure(*[member(5, 3)] * 7, bits(5, 3, 63), bits(5, 3, 1))
        self.assertEqual(behind(before, [read(5, 8, [0] * 63 + [128]), read(5, 8, [255] * 63 + [127]),
                                         read(5, 6, COUNT)]), [[0, 1], [0, 0], [0, 0x3837363534333231]])


class Write(unittest.TestCase):
    def test_scalars(self):
        before = structure(member(5, 0), member(5, 1), member(5, 2), member(5, 3))
        row = [7] * 16
        asked = [write(5, 0, 200, row), write(5, 1, 0x0102, row), write(5, 2, 0x01020304, row),
                 write(5, 3, 0x0102030405060708, row), write(5, 3, 0, row)]
        self.assertEqual(behind(before, asked), [
            [0, 200] + [7] * 15, [0, 7, 7, 2, 1] + [7] * 12, [0, 7, 7, 7, 7, 4, 3, 2, 1] + [7] * 8,
            [0] + [7] * 8 + [8, 7, 6, 5, 4, 3, 2, 1], [0] + [7] * 8 + [0] * 8])

    def test_scalars_of_lesser_alignment(self):
        before = [scalar(1, 1), scalar(4, 1), begin(0), member(2, 0), member(2, 1), close(2)]
        self.assertEqual(last(before + [write(2, 1, 0x0a0b0c0d, [1] * 5)]), [0, 1, 0x0d, 0x0c, 0x0b, 0x0a])

    def test_bit_fields_change_their_own_bits_alone(self):
        before = structure(bits(5, 3, 3), bits(5, 3, 10), bits(5, 3, 40), bits(5, 3, 11))
        zeros, ones = [0] * 8, [255] * 8
        asked = [write(5, 1, 1023, zeros), write(5, 1, 0, ones), write(5, 2, 2 ** 40 - 1, zeros), write(5, 2, 0, ones),
                 write(5, 3, 2 ** 10, zeros), write(5, 0, 5, ones)]
        self.assertEqual(behind(before, asked), [
            [0, 0xf8, 0x1f, 0, 0, 0, 0, 0, 0], [0, 0x07, 0xe0] + [255] * 6, [0, 0, 0xe0, 255, 255, 255, 255, 0x1f, 0],
            [0, 255, 0x1f, 0, 0, 0, 0, 0xe0, 255], [0, 0, 0, 0, 0, 0, 0, 0, 0x80], [0, 0xfd] + [255] * 7])

    def test_bits_between_members_stay(self):
        before = structure(member(5, 0), member(5, 2), bits(5, 1, 5), bits(5, 1, 3, 0))
        asked = [write(5, m, 0, [255] * 12) for m in range(4)]
        self.assertEqual(behind(before, asked), [
            [0, 0] + [255] * 11, [0, 255, 255, 255, 255, 0, 0, 0, 0] + [255] * 4,
            [0] + [255] * 8 + [0xe0] + [255] * 3, [0] + [255] * 8 + [0x1f] + [255] * 3])

    def test_without_a_name(self):
        self.assertEqual(last(structure(bits(5, 2, 3), bits(5, 2, 7, 0)) + [write(5, 1, 127, [0] * 4)]),
                         [0, 0xf8, 3, 0, 0])

    def test_in_a_union(self):
        before = union(member(6, 0), member(6, 3), bits(6, 2, 9), bits(6, 2, 0, 0))
        asked = [write(6, 0, 9, [255] * 8), write(6, 1, 9, [255] * 8), write(6, 2, 0, [255] * 8), write(6, 3, 0, [255] * 8)]
        self.assertEqual(behind(before, asked), [[0, 9] + [255] * 7, [0, 9] + [0] * 7, [0, 0, 254] + [255] * 6, [-4]])

    def test_more_bytes_than_the_size_stay(self):
        before = structure(member(5, 1), bits(5, 0, 3))
        for more in (0, 1, 2, 60):
            self.assertEqual(last(before + [write(5, 0, 0x0102, COUNT[:4 + more])]), [0, 2, 1] + COUNT[2:4 + more])
            self.assertEqual(last(before + [write(5, 1, 4, COUNT[:4 + more])]), [0, 1, 2, 4] + COUNT[3:4 + more])

    def test_what_is_written_is_read(self):
        before = structure(bits(5, 2, 5), bits(5, 2, 20, 0), member(5, 0), member(5, 3), bits(5, 1, 9))
        for m, width in enumerate((5, 20, 8, 64, 9)):
            for v in (0, 1, 2 ** (width - 1), 2 ** width - 1):
                written = last(before + [write(5, m, v, COUNT)])
                self.assertEqual(written[0], 0)
                self.assertEqual(last(before + [read(5, m, written[1:])]), [0, v])
                for other in set(range(5)) - {m}:
                    self.assertEqual(last(before + [read(5, other, written[1:])]), last(before + [read(5, other, COUNT)]))

    def test_nothing_is_written_in_the_book(self):
        before = structure(member(5, 0))
        self.assertEqual(behind(before, [write(5, 0, 9, [1]), read(5, 0, [1]), write(5, 0, 8, [1]), measure(5)]),
                         [[0, 9], [0, 1], [0, 8], [0, 1, 1]])

    def test_the_last_of_64_bytes(self):
        before = structure(*[member(5, 3)] * 7, bits(5, 3, 63), bits(5, 3, 1))
        self.assertEqual(last(before + [write(5, 8, 1, [0] * 64)]), [0] * 64 + [128])


class NotSuited(unittest.TestCase):
    BEFORE = BASE + [array(0, 1), begin(0), member(8, 0), close(8), begin(1), member(9, 0), close(9), member(5, 4),
                     member(5, 7), member(5, 8), member(5, 9), bits(5, 0, 0, 0), close(5)]

    def test_both(self):
        for m in range(5):
            for row in ([], [0], [0] * 32, [0] * 64):
                for call in (read(5, m, row), write(5, m, 0, row), write(5, m, FAR, row)):
                    self.assertEqual(last(self.BEFORE + [call]), [-4])

    def test_in_a_union(self):
        before = BASE + [array(3, 1), member(6, 4), member(6, 7), bits(6, 3, 0, 0), member(6, 3), close(6)]
        for m in range(3):
            self.assertEqual(behind(before, [read(6, m, [0] * 16), write(6, m, 0, [0] * 16)]), [[-4], [-4]])
        self.assertEqual(last(before + [read(6, 3, [1] + [0] * 15)]), [0, 1])

    def test_scalar_of_16_bytes_of_lesser_alignment(self):
        before = [scalar(16, 8), begin(0), member(1, 0), close(1)]
        self.assertEqual(behind(before, [read(1, 0, [0] * 16), write(1, 0, 0, [0] * 16)]), [[-4], [-4]])

    def test_nothing_but_0_bits(self):
        self.assertEqual(behind(structure(bits(5, 0, 0, 0)), [read(5, 0, []), write(5, 0, 0, [])]), [[-4], [-4]])


class TooFewBytes(unittest.TestCase):
    def test_one_fewer_than_the_size(self):
        before = structure(member(5, 0), member(5, 2), member(5, 0))
        for m in range(3):
            for count in (0, 1, 11):
                row = [0] * count
                self.assertEqual(behind(before, [read(5, m, row), write(5, m, 0, row)]), [[-6], [-6]])
            row = [0] * 12
            self.assertEqual(behind(before, [read(5, m, row), write(5, m, 0, row)]), [[0, 0], [0] + row])

    def test_in_a_union(self):
        before = union(member(6, 0), member(6, 3))
        self.assertEqual(behind(before, [read(6, 0, [1] * 7), write(6, 0, 1, [1] * 7), read(6, 0, [1] * 8)]),
                         [[-6], [-6], [0, 1]])

    def test_larger_than_any_row(self):
        before = BASE + [array(0, 64), array(0, LIMIT - 1), member(5, 0), member(5, 7), close(5)]
        before += [member(6, 0), member(6, 8), close(6)]
        for t in (5, 6):
            self.assertEqual(behind(before, [read(t, 0, [1] * 64), write(t, 0, 1, [1] * 64)]), [[-6], [-6]])


class TooManyBits(unittest.TestCase):
    def test_least_that_is_and_greatest_that_is_not(self):
        parts = [member(5, 0), member(5, 1), member(5, 2), member(5, 3), bits(5, 2, 1), bits(5, 2, 9), bits(5, 2, 7, 0),
                 bits(5, 3, 64), bits(5, 3, 63)]
        before = structure(*parts)
        for m, width in enumerate((8, 16, 32, 64, 1, 9, 7, 64, 63)):
            asked = [write(5, m, 2 ** width - 1, [0] * 64), write(5, m, 2 ** width, [0] * 64), write(5, m, FAR, [0] * 64)]
            answered = behind(before, asked)
            self.assertEqual([answered[0][0], answered[1], answered[2]], [0, [-7], [-7]])
            self.assertEqual(sum(number.bit_count() for number in answered[0][1:]), width)

    def test_in_a_union(self):
        before = union(bits(6, 2, 3), member(6, 3))
        self.assertEqual(behind(before, [write(6, 0, 7, [0] * 8), write(6, 0, 8, [0] * 8)]), [[0, 7] + [0] * 7, [-7]])


class Wrong(unittest.TestCase):
    BEFORE = structure(member(5, 0), bits(5, 0, 0, 0), member(5, 0))

    def both(self, t, m, row, before=BEFORE):
        return behind(before, [read(t, m, row), write(t, m, 0, row)])

    def test_row_of_more_than_64(self):
        self.assertEqual(self.both(5, 0, [0] * 64), [[0, 0], [0] + [0] * 64])
        for count in (65, 66, 200):
            for m in (0, 1):
                self.assertEqual(self.both(5, m, [0] * count), [[-1], [-1]])

    def test_numbers_that_are_no_bytes(self):
        for number in (-FAR, -256, -1, 256, FAR):
            for row in ([number, 0], [0, number], [0, 0, number], [0] * 63 + [number], [number]):
                for m in (0, 1):
                    self.assertEqual(self.both(5, m, row), [[-1], [-1]])

    def test_v_below_0(self):
        for v in (-1, -255, -FAR):
            self.assertEqual(last(self.BEFORE + [write(5, 0, v, [0, 0])]), [-1])

    def test_open(self):
        for t in (5, 6):
            before = BASE + [member(t, 0)]
            self.assertEqual(self.both(t, 0, [0], before), [[-1], [-1]])
            self.assertEqual(self.both(t, 0, [0], before + [close(t)]), [[0, 0], [0, 0]])

    def test_no_such_member(self):
        for m in (-FAR, -1, 3, 4, FAR):
            self.assertEqual(self.both(5, m, [0] * 8), [[-1], [-1]])

    def test_no_such_kind_or_one_without_members(self):
        for t in (-FAR, -1, 0, 3, 7, 8, FAR):
            self.assertEqual(self.both(t, 0, [0] * 8), [[-1], [-1]])
        before = structure(member(5, 0)) + [array(5, 1), array(0, 1)]
        for t in (7, 8):
            self.assertEqual(self.both(t, 0, [0], before), [[-1], [-1]])


class OrderOfRefusals(unittest.TestCase):
    BEFORE = structure(member(5, 4), member(5, 0), bits(5, 0, 0, 0))

    def test_wrong_ahead_of_not_suited(self):
        for m in (0, 2):
            for row in ([0] * 65, [256], [-1] * 32):
                self.assertEqual(behind(self.BEFORE, [read(5, m, row), write(5, m, 0, row)]), [[-1], [-1]])
            self.assertEqual(last(self.BEFORE + [write(5, m, -1, [0] * 32)]), [-1])

    def test_not_suited_ahead_of_too_few(self):
        for m in (0, 2):
            for count in (0, 31):
                self.assertEqual(behind(self.BEFORE, [read(5, m, [0] * count), write(5, m, 0, [0] * count)]), [[-4], [-4]])

    def test_not_suited_ahead_of_too_many_bits(self):
        for m in (0, 2):
            self.assertEqual(last(self.BEFORE + [write(5, m, FAR, [0] * 32)]), [-4])

    def test_too_few_ahead_of_too_many_bits(self):
        asked = [write(5, 1, 256, [0] * 31), write(5, 1, 256, [0] * 32), write(5, 1, 256, [])]
        self.assertEqual(behind(self.BEFORE, asked), [[-6], [-7], [-6]])

    def test_wrong_ahead_of_too_few(self):
        asked = [read(5, 1, [256]), write(5, 1, 0, [-1]), write(5, 1, -1, [])]
        self.assertEqual(behind(self.BEFORE, asked), [[-1], [-1], [-1]])

    def test_wrong_ahead_of_too_many_bits(self):
        asked = [write(5, 1, FAR, [0] * 65), write(5, 1, FAR, [0] * 32 + [256]), write(5, 9, FAR, [0] * 32)]
        self.assertEqual(behind(self.BEFORE, asked), [[-1], [-1], [-1]])


class Rows(unittest.TestCase):
    def test_the_call_behind_a_row_is_found(self):
        before = structure(member(5, 0))
        for count in (0, 1, 2, 63, 64, 65, 199, 200):
            row = [11] * count
            answered = behind(before, [read(5, 0, row), measure(2), write(5, 0, 12, row), measure(3), read(5, 0, [13])])
            self.assertEqual([answered[1], answered[3], answered[4]], [[0, 4, 4], [0, 8, 8], [0, 13]])
            refused = {0: [-6], 65: [-1], 199: [-1], 200: [-1]}
            self.assertEqual(answered[0], refused.get(count, [0, 11]))
            self.assertEqual(answered[2], refused.get(count, [0, 12] + row[1:]))

    def test_rows_ahead_of_everything(self):
        self.assertEqual(run([read(0, 0, []), write(0, 0, 0, [1] * 200), scalar(2, 1), measure(0)]),
                         [[-1], [-1], [0, 0], [0, 2, 1]])


if __name__ == "__main__":
    unittest.main()
