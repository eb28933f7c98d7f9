"""The calls 6 and 7, close and measure."""

import unittest

from tests.helper import FAR, array, begin, bits, close, last, measure, member, run, scalar


class Close(unittest.TestCase):
    def test_once_only(self):
        for union in (0, 1):
            self.assertEqual(run([begin(union), close(0), close(0)]), [[0, 0], [0], [-1]])

    def test_scalar_and_array_are_closed(self):
        self.assertEqual(run([scalar(1, 1), array(0, 2), close(0), close(1)])[2:], [[-1], [-1]])

    def test_not_there(self):
        for t in (-FAR, -1, 1, 2, FAR):
            self.assertEqual(last([begin(0), close(t)]), [-1])

    def test_nothing_is_added_any_more(self):
        calls = [scalar(4, 4), begin(0), member(1, 0), close(1), member(1, 0), bits(1, 0, 1), measure(1)]
        self.assertEqual(run(calls)[3:], [[0], [-1], [-1], [0, 4, 4]])

    def test_only_the_one_that_is_named(self):
        self.assertEqual(run([begin(0), begin(0), close(1), measure(0), measure(1)])[2:], [[0], [-1], [0, 0, 1]])


class Measure(unittest.TestCase):
    def test_not_closed(self):
        for union in (0, 1):
            self.assertEqual(last([scalar(2, 2), begin(union), member(1, 0), measure(1)]), [-1])

    def test_not_there(self):
        self.assertEqual(last([measure(0)]), [-1])
        for t in (-FAR, -1, 1, 2, FAR):
            self.assertEqual(last([scalar(1, 1), measure(t)]), [-1])

    def test_without_members(self):
        for union in (0, 1):
            self.assertEqual(last([begin(union), close(0), measure(0)]), [0, 0, 1])

    def test_deeply_nested(self):
        calls = [scalar(1, 1), scalar(8, 8), begin(0), member(2, 1), member(2, 0), close(2)]
        size = 16
        for t in range(3, 30):
            calls += [begin(0), member(t, t - 1), member(t, 0), close(t), measure(t)]
            size += 8
            self.assertEqual(last(calls), [0, size, 8])

    def test_255_arrays_within_one_another(self):
        calls = [scalar(2, 2)] + [array(t, 1) for t in range(255)]
        self.assertEqual(last(calls + [measure(255)]), [0, 2, 2])

    def test_array_of_unions_in_a_structure(self):
        calls = [scalar(1, 1), scalar(4, 4), array(0, 6), begin(1), member(3, 1), member(3, 2), close(3), array(3, 3)]
        calls += [begin(0), member(5, 0), member(5, 4), member(5, 0), close(5), measure(3), measure(4), measure(5)]
        self.assertEqual(run(calls)[-3:], [[0, 8, 4], [0, 24, 4], [0, 32, 4]])


if __name__ == "__main__":
    unittest.main()
