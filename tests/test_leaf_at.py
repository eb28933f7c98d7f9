"""The call 10, leaf at."""

import unittest

from tests.helper import (FAR, LIMIT, array, begin, behind, bits, close, last, leaf_at, member, run, run_quick,
                          run_shallow, scalar)


def by_byte(before, t, count):
    """The leaf of each of the first bytes of t, None where there's none."""
    answered = behind(before, [leaf_at(t, byte) for byte in range(count)])
    assert all(answer == [-5] or len(answer) == 2 and answer[0] == 0 for answer in answered), answered
    return [None if answer == [-5] else answer[1] for answer in answered]


class Bytes(unittest.TestCase):
    def test_scalar(self):
        for size in (1, 2, 4, 8, 16):
            self.assertEqual(by_byte([scalar(size, 1)], 0, size + 3), [0] * size + [None] * 3)

    def test_array(self):
        self.assertEqual(by_byte([scalar(2, 2), array(0, 3)], 1, 8), [0, 0, 1, 1, 2, 2, None, None])
        self.assertEqual(by_byte([scalar(1, 1), array(0, 2), array(1, 2)], 2, 6), [0, 1, 2, 3, None, None])

    def test_gaps_between_members(self):
        before = [scalar(1, 1), scalar(4, 4), begin(0), member(2, 0), member(2, 1), member(2, 0), close(2)]
        self.assertEqual(by_byte(before, 2, 14), [0, None, None, None, 1, 1, 1, 1, 2] + [None] * 5)

    def test_gaps_within_an_array_s_elements(self):
        before = [scalar(1, 1), scalar(2, 2), begin(0), member(2, 0), member(2, 1), member(2, 0), close(2), array(2, 3)]
        self.assertEqual(by_byte(before, 3, 20), [0, None, 1, 1, 2, None, 3, None, 4, 4, 5, None, 6, None, 7, 7, 8]
                         + [None] * 3)

    def test_structure_in_a_structure(self):
        before = [scalar(1, 1), scalar(2, 2), begin(0), member(2, 1), member(2, 0), close(2)]
        before += [begin(0), member(3, 0), member(3, 2), member(3, 0), member(3, 2, 8), close(3)]
        self.assertEqual(by_byte(before, 3, 17), [0, None, 1, 1, 2, None, 3, None, 4, 4, 5] + [None] * 6)

    def test_members_without_leaves(self):
        before = [scalar(1, 1), begin(0), close(1), array(0, 0), begin(0), bits(3, 0, 8, 0), close(3), begin(0)]
        before += [member(4, 1), member(4, 0), member(4, 2), member(4, 3), member(4, 1, 4), member(4, 0), close(4)]
        self.assertEqual(by_byte(before, 4, 9), [0, None, None, None, 1] + [None] * 4)


class Unions(unittest.TestCase):
    BEFORE = [scalar(1, 1), scalar(4, 4), array(0, 5), begin(1), member(3, 1), member(3, 2), close(3)]

    def test_every_byte_of_it_is_of_the_one_leaf(self):
        self.assertEqual(by_byte(self.BEFORE, 3, 10), [0] * 8 + [None] * 2)

    def test_within_others(self):
        before = self.BEFORE + [begin(0), member(4, 0), member(4, 3), member(4, 0), close(4), array(4, 2)]
        once = [0, None, None, None, 1, 1, 1, 1, 1, 1, 1, 1, 2, None, None, None]
        twice = once + [None if number is None else number + 3 for number in once]
        self.assertEqual(by_byte(before, 5, 34), twice + [None] * 2)

    def test_of_size_0(self):
        before = [scalar(1, 1), begin(1), close(1), begin(0), member(2, 1), member(2, 0), member(2, 1), close(2)]
        self.assertEqual(by_byte(before, 1, 2), [None] * 2)
        self.assertEqual(by_byte(before, 2, 2), [0, None])

    def test_of_bits_without_a_name(self):
        self.assertEqual(by_byte([scalar(4, 4), begin(1), bits(1, 0, 9, 0), close(1)], 1, 3), [0, 0, None])


class BitFields(unittest.TestCase):
    # Kinds 0 to 3: a scalar of 1, 2, 4, 8 bytes; 4: a structure.
    BASE = [scalar(1, 1), scalar(2, 2), scalar(4, 4), scalar(8, 8), begin(0)]

    def structure(self, parts, count):
        return by_byte(self.BASE + parts + [close(4)], 4, count)

    def test_first_of_several_in_a_byte(self):
        self.assertEqual(self.structure([bits(4, 0, 3), bits(4, 0, 4), bits(4, 0, 1)], 2), [0, None])
        self.assertEqual(self.structure([bits(4, 2, 7), bits(4, 2, 2), bits(4, 2, 8)], 5), [0, 1, 2, None, None])
        self.assertEqual(self.structure([bits(4, 2, 8), bits(4, 2, 2), bits(4, 2, 8)], 5), [0, 1, 2, None, None])

    def test_over_several_bytes(self):
        self.assertEqual(self.structure([bits(4, 3, 3), bits(4, 3, 33), bits(4, 3, 20)], 9),
                         [0, 1, 1, 1, 1, 2, 2, None, None])

    def test_without_a_name(self):
        self.assertEqual(self.structure([bits(4, 2, 8), bits(4, 2, 8, 0), bits(4, 2, 8)], 5), [0, None, 1, None, None])
        self.assertEqual(self.structure([bits(4, 2, 3, 0), bits(4, 2, 3), bits(4, 2, 10, 0), bits(4, 2, 16)], 5),
                         [0, None, 1, 1, None])
        self.assertEqual(self.structure([bits(4, 2, 7, 0), bits(4, 2, 1)], 4), [0, None, None, None])
        self.assertEqual(self.structure([bits(4, 2, 9, 0)], 3), [None] * 3)

    def test_of_0_bits(self):
        self.assertEqual(self.structure([bits(4, 0, 1), bits(4, 2, 0, 0), bits(4, 0, 1)], 6), [0, None, None, None, 1, None])
        self.assertEqual(self.structure([bits(4, 2, 0, 0)], 1), [None])

    def test_bits_that_are_left_over(self):
        self.assertEqual(self.structure([bits(4, 2, 17), bits(4, 2, 16)], 9), [0, 0, 0, None, 1, 1, None, None, None])

    def test_ahead_of_and_behind_members(self):
        parts = [member(4, 0), bits(4, 2, 4), member(4, 0), bits(4, 0, 1), member(4, 1)]
        self.assertEqual(self.structure(parts, 9), [0, 1, 2, 3, 4, 4, None, None, None])

    def test_within_an_array_s_elements(self):
        before = self.BASE + [bits(4, 1, 3, 0), bits(4, 1, 5), bits(4, 1, 2), close(4), array(4, 3)]
        self.assertEqual(by_byte(before, 5, 7), [0, 1, 2, 3, 4, 5, None])


class BehindTheEnd(unittest.TestCase):
    def test_just_behind_and_far_behind(self):
        before = [scalar(4, 4), array(0, 3), begin(0), member(2, 1), close(2), begin(1), member(3, 1), close(3)]
        for t, size in ((0, 4), (1, 12), (2, 12), (3, 12)):
            asked = [leaf_at(t, size - 1), leaf_at(t, size), leaf_at(t, LIMIT), leaf_at(t, FAR - 1), leaf_at(t, FAR)]
            self.assertEqual(behind(before, asked)[1:], [[-5]] * 4)
            self.assertEqual(behind(before, asked)[0][0], 0)

    def test_kinds_without_a_byte(self):
        before = [scalar(4, 4), array(0, 0), begin(0), close(2), begin(1), close(3), array(2, FAR), array(1, 3)]
        for t in (1, 2, 3, 4, 5):
            self.assertEqual(behind(before, [leaf_at(t, 0), leaf_at(t, 1), leaf_at(t, FAR)]), [[-5]] * 3)


class LargeAndDeep(unittest.TestCase):
    def test_largest_array(self):
        before = [scalar(1, 1), array(0, LIMIT)]
        asked = [leaf_at(1, 0), leaf_at(1, 12345678901), leaf_at(1, LIMIT - 1), leaf_at(1, LIMIT)]
        self.assertEqual(run_quick(before + asked)[2:], [[0, 0], [0, 12345678901], [0, LIMIT - 1], [-5]])

    def test_largest_array_without_leaves(self):
        before = [scalar(1, 1), begin(0), bits(1, 0, 8, 0), close(1), array(1, LIMIT)]
        asked = [leaf_at(2, 0), leaf_at(2, LIMIT - 1), leaf_at(2, LIMIT)]
        self.assertEqual(run_quick(before + asked)[-3:], [[-5]] * 3)

    def test_far_in_with_gaps(self):
        before = [scalar(1, 1), scalar(4, 4), begin(0), member(2, 0), member(2, 1), close(2), array(2, LIMIT // 8)]
        at = LIMIT - 8
        answered = run_quick(before + [leaf_at(3, at + k) for k in range(9)])[len(before):]
        leaf = LIMIT // 4 - 2
        self.assertEqual(answered, [[0, leaf]] + [[-5]] * 3 + [[0, leaf + 1]] * 4 + [[-5]])

    def test_behind_a_large_array(self):
        before = [scalar(2, 2), array(0, LIMIT // 2 - 1), begin(0), member(2, 1), member(2, 0), close(2)]
        asked = [leaf_at(2, LIMIT - 3), leaf_at(2, LIMIT - 2), leaf_at(2, LIMIT - 1), leaf_at(2, LIMIT)]
        leaf = LIMIT // 2 - 2
        self.assertEqual(run_quick(before + asked)[-4:], [[0, leaf], [0, leaf + 1], [0, leaf + 1], [-5]])

    def test_40_arrays_of_2_within_one_another(self):
        before = [scalar(1, 1)] + [array(t, 2) for t in range(40)]
        for byte in (0, 1, 699050, LIMIT - 1):
            self.assertEqual(run_quick(before + [leaf_at(40, byte)])[-1], [0, byte])

    def test_190_structures_within_one_another(self):
        calls = [scalar(2, 2)]
        for t in range(1, 191):
            calls += [begin(0), member(t, t - 1), close(t)]
        asked = [leaf_at(190, byte) for byte in (0, 1, 2, FAR)]
        self.assertEqual(run_shallow(calls + asked)[-4:], [[0, 0], [0, 0], [-5], [-5]])

    def test_145_structures_each_with_a_byte_ahead_of_the_one_within(self):
        calls = [scalar(1, 1), scalar(2, 2)]
        for t in range(2, 147):
            calls += [begin(0), member(t, 0), member(t, t - 1), close(t)]
        asked = [leaf_at(146, byte) for byte in (0, 1, 14, 15, 288, 289, 290, 291, 292)]
        self.assertEqual(run_shallow(calls + asked)[-9:], [[0, 0], [-5], [0, 7], [-5], [0, 144], [-5], [0, 145], [0, 145],
                                                           [-5]])

    def test_255_arrays_and_structures_within_one_another(self):
        calls = [scalar(4, 4)]
        for t in range(1, 255, 2):
            calls += [array(t - 1, 1), begin(0), member(t + 1, t), close(t + 1)]
        calls += [array(254, 3), leaf_at(255, 7), leaf_at(255, 8), leaf_at(255, 11), leaf_at(255, 12)]
        self.assertEqual(run_shallow(calls)[-4:], [[0, 1], [0, 2], [0, 2], [-5]])


class Wrong(unittest.TestCase):
    def test_open(self):
        for union in (0, 1):
            calls = [scalar(1, 1), begin(union), member(1, 0), leaf_at(1, 0), leaf_at(1, 9), close(1), leaf_at(1, 0)]
            self.assertEqual(run(calls)[3:], [[-1], [-1], [0], [0, 0]])

    def test_byte_below_0(self):
        before = [scalar(4, 4), array(0, 3), begin(0), member(2, 1), close(2), begin(0), close(3)]
        for t in range(4):
            for byte in (-1, -4, -FAR):
                self.assertEqual(last(before + [leaf_at(t, byte)]), [-1])

    def test_no_such_kind(self):
        for t in (-FAR, -1, 1, 2, FAR):
            for byte in (-1, 0, FAR):
                self.assertEqual(last([scalar(1, 1), leaf_at(t, byte)]), [-1])


if __name__ == "__main__":
    unittest.main()
