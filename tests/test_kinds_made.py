"""The calls 1 to 3: scalar, array, begin."""

import unittest

from tests.helper import FAR, LIMIT, array, begin, bits, close, last, measure, measured, member, run, scalar

SIZES = (1, 2, 4, 8, 16)


class Scalar(unittest.TestCase):
    def test_every_size_with_every_alignment(self):
        for size in SIZES:
            for alignment in SIZES:
                told = alignment <= size
                expected = [[0, 0], [0, size, alignment]] if told else [[-1], [-1]]
                self.assertEqual(run([scalar(size, alignment), measure(0)]), expected)

    def test_other_sizes_and_alignments(self):
        for number in (-FAR, -16, -1, 0, 3, 5, 6, 7, 9, 15, 17, 32, FAR):
            self.assertEqual(last([scalar(number, 1)]), [-1])
            self.assertEqual(last([scalar(16, number)]), [-1])
            self.assertEqual(last([scalar(number, number)]), [-1])

    def test_numbers_go_up_from_0(self):
        self.assertEqual(run([scalar(1, 1), scalar(8, 4), scalar(8, 4)]), [[0, 0], [0, 1], [0, 2]])

    def test_256_kinds(self):
        answered = run([scalar(4, 4)] * 256 + [scalar(4, 4), scalar(3, 1), measure(255), measure(256)])
        self.assertEqual(answered[255:], [[0, 255], [-2], [-1], [0, 4, 4], [-1]])


class Array(unittest.TestCase):
    def test_size_and_alignment(self):
        for size, alignment, count in ((1, 1, 0), (4, 2, 3), (16, 8, 1), (8, 8, 1000)):
            answered = run([scalar(size, alignment), array(0, count), measure(1)])
            self.assertEqual(answered[1:], [[0, 1], [0, size * count, alignment]])

    def test_count_below_0(self):
        for count in (-1, -2, -FAR):
            self.assertEqual(last([scalar(4, 4), array(0, count)]), [-1])

    def test_kind_not_there(self):
        for t in (-FAR, -1, 1, 2, 256, FAR):
            self.assertEqual(last([scalar(4, 4), array(t, 1)]), [-1])
        self.assertEqual(last([array(0, 1)]), [-1])

    def test_kind_not_closed(self):
        answered = run([begin(0), array(0, 2), close(0), array(0, 2), measure(1)])
        self.assertEqual(answered, [[0, 0], [-1], [0], [0, 1], [0, 0, 1]])

    def test_largest(self):
        answered = run([scalar(1, 1), array(0, LIMIT), array(0, LIMIT + 1), array(0, FAR), measure(1), measure(2)])
        self.assertEqual(answered[1:], [[0, 1], [-3], [-3], [0, LIMIT, 1], [-1]])
        answered = run([scalar(16, 16), array(0, LIMIT // 16), array(0, LIMIT // 16 + 1), measure(1)])
        self.assertEqual(answered[1:], [[0, 1], [-3], [0, LIMIT, 16]])

    def test_arrays_of_arrays(self):
        calls = [scalar(8, 4), array(0, 3), array(1, 5), array(2, 0), array(1, LIMIT // 24), array(1, LIMIT // 24 + 1)]
        answered = run(calls + [measure(2), measure(3), measure(4)])
        self.assertEqual(answered[4:], [[0, 4], [-3], [0, 120, 4], [0, 0, 4], [0, LIMIT // 24 * 24, 4]])

    def test_any_count_of_size_0(self):
        answered = run([scalar(2, 2), array(0, 0), array(1, FAR), measure(2)])
        self.assertEqual(answered[2:], [[0, 2], [0, 0, 2]])

    def test_too_large_is_ahead_of_full_and_behind_wrong(self):
        full = [scalar(1, 1)] * 256
        answered = run(full + [array(0, LIMIT + 1), array(0, LIMIT), array(0, 1), array(256, LIMIT + 1), array(0, -1)])
        self.assertEqual(answered[256:], [[-3], [-2], [-2], [-1], [-1]])

    def test_the_256th(self):
        answered = run([scalar(1, 1)] * 255 + [array(0, 7), array(0, 7), measure(255)])
        self.assertEqual(answered[255:], [[0, 255], [-2], [0, 7, 1]])

    def test_of_structures(self):
        before = [scalar(4, 4), scalar(1, 1), begin(0), member(2, 0), member(2, 1), close(2), array(2, 3), measure(3)]
        self.assertEqual(last(before), [0, 24, 4])


class Begin(unittest.TestCase):
    def test_structure_and_union_differ(self):
        for union, size in ((0, 8), (1, 4)):
            calls = [begin(union), member(1, 0), member(1, 0)]
            self.assertEqual(measured([scalar(4, 4)], 1, calls), [0, size, 4])

    def test_other_numbers(self):
        for union in (-FAR, -1, 2, 3, FAR):
            self.assertEqual(run([begin(union), begin(1)]), [[-1], [0, 0]])

    def test_is_not_closed(self):
        for union in (0, 1):
            answered = run([begin(union), measure(0), close(0), measure(0)])
            self.assertEqual(answered, [[0, 0], [-1], [0], [0, 0, 1]])

    def test_full(self):
        answered = run([scalar(1, 1)] * 255 + [begin(1), begin(0), begin(2), bits(255, 0, 3), close(255), measure(255)])
        self.assertEqual(answered[255:], [[0, 255], [-2], [-1], [0, 0], [0], [0, 1, 1]])

    def test_several_at_once(self):
        calls = [scalar(2, 2), begin(0), begin(1), member(1, 0), member(2, 0), member(1, 0), close(2), member(1, 2)]
        answered = run(calls + [close(1), measure(1), measure(2)])
        self.assertEqual(answered[1:], [[0, 1], [0, 2], [0, 0], [0, 0], [0, 1], [0], [0, 2], [0], [0, 6, 2], [0, 2, 2]])


if __name__ == "__main__":
    unittest.main()
