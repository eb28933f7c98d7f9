"""The call 8, offset."""

import unittest

from tests.helper import FAR, LIMIT, array, begin, behind, bits, close, last, member, offset, scalar

# Kinds 0 to 3: a scalar of 1, 2, 4, 8 bytes; 4: a structure; 5: a union.
BASE = [scalar(1, 1), scalar(2, 2), scalar(4, 4), scalar(8, 8), begin(0), begin(1)]


class InAStructure(unittest.TestCase):
    PARTS = [member(4, 0), member(4, 2), member(4, 1), bits(4, 2, 3), bits(4, 2, 5, 0), bits(4, 2, 0, 0), bits(4, 0, 7),
             member(4, 3), bits(4, 3, 64), bits(4, 1, 1, 0), member(4, 0, 64)]
    EXPECTED = [[0, 0, 8], [0, 32, 32], [0, 64, 16], [0, 80, 3], [0, 83, 5], [0, 96, 0], [0, 96, 7], [0, 128, 64],
                [0, 192, 64], [0, 256, 1], [0, 512, 8]]

    def test_closed(self):
        asked = [offset(4, m) for m in range(len(self.PARTS))]
        self.assertEqual(behind(BASE + self.PARTS + [close(4)], asked), self.EXPECTED)

    def test_while_it_is_still_open(self):
        for count in range(1, len(self.PARTS) + 1):
            asked = [offset(4, m) for m in range(count + 1)]
            self.assertEqual(behind(BASE + self.PARTS[:count], asked), self.EXPECTED[:count] + [[-1]])

    def test_bit_fields_that_go_to_the_next_stretch(self):
        parts = [bits(4, 2, 20), bits(4, 2, 13), bits(4, 0, 3), bits(4, 0, 4), bits(4, 1, 9), bits(4, 3, 0, 0)]
        asked = [offset(4, m) for m in range(6)]
        self.assertEqual(behind(BASE + parts, asked), [[0, 0, 20], [0, 32, 13], [0, 45, 3], [0, 48, 4], [0, 52, 9],
                                                       [0, 64, 0]])

    def test_kind_0(self):
        for union in (0, 1):
            before = [begin(union), scalar(1, 1), member(0, 1), bits(0, 1, 3)]
            asked = [offset(0, 0), offset(0, 1), offset(0, 2)]
            self.assertEqual(behind(before, asked), [[0, 0, 8], [0, 0 if union else 8, 3], [-1]])

    def test_of_0_bits_at_the_beginning(self):
        self.assertEqual(last(BASE + [bits(4, 3, 0, 0), offset(4, 0)]), [0, 0, 0])

    def test_whole_kinds(self):
        before = [scalar(1, 1), scalar(4, 4), array(1, 3), begin(0), member(3, 0), member(3, 1), close(3), begin(1)]
        before += [member(4, 2), member(4, 0), close(4), array(0, 0), begin(0), member(6, 0), member(6, 2), member(6, 0)]
        before += [member(6, 3), member(6, 0), member(6, 5, 2), member(6, 4), close(6)]
        self.assertEqual(behind(before, [offset(6, m) for m in range(7)]),
                         [[0, 0, 8], [0, 32, 96], [0, 128, 8], [0, 160, 64], [0, 224, 8], [0, 240, 0], [0, 256, 96]])

    def test_far_away(self):
        before = [scalar(1, 1), scalar(8, 8), array(0, LIMIT - 9), begin(0), member(3, 2), member(3, 1), close(3)]
        self.assertEqual(behind(before, [offset(3, 0), offset(3, 1)]), [[0, 0, 8 * LIMIT - 72], [0, 8 * LIMIT - 64, 64]])


class InAUnion(unittest.TestCase):
    PARTS = [member(5, 0), bits(5, 2, 9), bits(5, 3, 0, 0), bits(5, 1, 5, 0), member(5, 3), member(5, 1, 64)]
    EXPECTED = [[0, 0, 8], [0, 0, 9], [0, 0, 0], [0, 0, 5], [0, 0, 64], [0, 0, 16]]

    def test_open_and_closed(self):
        asked = [offset(5, m) for m in range(6)]
        self.assertEqual(behind(BASE + self.PARTS, asked + [close(5)] + asked), self.EXPECTED + [[0]] + self.EXPECTED)


class Wrong(unittest.TestCase):
    def test_no_such_member(self):
        for t in (4, 5):
            for count in (0, 1, 2):
                for ending in ([], [close(t)]):
                    before = BASE + [member(t, 0)] * count + ending
                    for m in (-FAR, -2, -1, count, count + 1, 512, FAR):
                        self.assertEqual(last(before + [offset(t, m)]), [-1])

    def test_members_of_another(self):
        self.assertEqual(last(BASE + [member(4, 0), member(4, 0), member(5, 0), offset(5, 1)]), [-1])

    def test_what_has_no_members(self):
        for m in (-1, 0, 1):
            self.assertEqual(last([scalar(4, 4), offset(0, m)]), [-1])
            self.assertEqual(last([scalar(4, 4), array(0, 3), offset(1, m)]), [-1])

    def test_array_of_a_structure_has_none_of_its_members(self):
        before = [scalar(4, 4), begin(0), member(1, 0), close(1), array(1, 2)]
        self.assertEqual(behind(before, [offset(1, 0), offset(2, 0)]), [[0, 0, 32], [-1]])

    def test_no_such_kind(self):
        for t in (-FAR, -2, -1, 6, 7, 256, FAR):
            self.assertEqual(last(BASE + [member(4, 0), member(5, 0), offset(t, 0)]), [-1])
        self.assertEqual(last([offset(0, 0)]), [-1])

    def test_refused_members_are_not_there(self):
        self.assertEqual(last(BASE + [bits(4, 0, 9), member(4, 0, 3), offset(4, 0)]), [-1])


if __name__ == "__main__":
    unittest.main()
