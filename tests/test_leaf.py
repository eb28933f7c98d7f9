"""The call 9, leaf."""

import unittest

from tests.helper import (FAR, LIMIT, array, begin, behind, bits, close, last, leaf, measure, member, run, run_quick,
                          run_shallow, scalar)


def all_leaves(before, t, most=50):
    """Every leaf of t, in order; the refusal behind the last one is looked at here."""
    answered = behind(before, [leaf(t, k) for k in range(most)])
    found = [answer[1:] for answer in answered if answer[0] == 0]
    assert answered == [[0] + one for one in found] + [[-5]] * (most - len(found)), answered
    return found


class Leaves(unittest.TestCase):
    def test_scalar(self):
        for size in (1, 2, 4, 8, 16):
            self.assertEqual(all_leaves([scalar(1, 1), scalar(size, 1)], 1), [[0, 8 * size, 1]])

    def test_array(self):
        self.assertEqual(all_leaves([scalar(2, 2), array(0, 3)], 1), [[0, 16, 0], [16, 16, 0], [32, 16, 0]])
        self.assertEqual(all_leaves([scalar(16, 4), array(0, 1)], 1), [[0, 128, 0]])

    def test_array_of_arrays(self):
        found = all_leaves([scalar(4, 4), array(0, 3), array(1, 2)], 2)
        self.assertEqual(found, [[32 * k, 32, 0] for k in range(6)])

    def test_structure(self):
        before = [scalar(1, 1), scalar(4, 4), scalar(2, 2), begin(0), member(3, 0), member(3, 1), member(3, 2), close(3)]
        self.assertEqual(all_leaves(before, 3), [[0, 8, 0], [32, 32, 1], [64, 16, 2]])

    def test_structure_in_a_structure(self):
        before = [scalar(1, 1), scalar(4, 4), begin(0), member(2, 0), member(2, 1), close(2)]
        before += [begin(0), member(3, 0), member(3, 2), member(3, 0), member(3, 2, 32), close(3)]
        self.assertEqual(all_leaves(before, 3), [[0, 8, 0], [32, 8, 0], [64, 32, 1], [96, 8, 0], [256, 8, 0],
                                                 [288, 32, 1]])

    def test_array_of_structures_goes_element_by_element(self):
        before = [scalar(4, 4), scalar(1, 1), begin(0), member(2, 0), member(2, 1), close(2), array(2, 3)]
        found = [[at + bit, width, u] for at in (0, 64, 128) for bit, width, u in ((0, 32, 0), (32, 8, 1))]
        self.assertEqual(all_leaves(before, 3), found)

    def test_arrays_in_a_structure(self):
        before = [scalar(2, 2), scalar(1, 1), array(1, 3), begin(0), member(3, 2), member(3, 0), member(3, 2), close(3)]
        self.assertEqual(all_leaves(before, 3), [[0, 8, 1], [8, 8, 1], [16, 8, 1], [32, 16, 0], [48, 8, 1], [56, 8, 1],
                                                 [64, 8, 1]])

    def test_two_kinds_of_the_same_form_keep_their_numbers(self):
        before = [scalar(4, 4), scalar(4, 4), begin(0), member(2, 1), member(2, 0), bits(2, 1, 4), close(2)]
        self.assertEqual(all_leaves(before, 2), [[0, 32, 1], [32, 32, 0], [64, 4, 1]])


class Unions(unittest.TestCase):
    BEFORE = [scalar(1, 1), scalar(4, 4), array(0, 5), begin(1), member(3, 1), member(3, 2), member(3, 0), close(3)]

    def test_one_as_a_whole(self):
        self.assertEqual(all_leaves(self.BEFORE, 3), [[0, 64, 3]])

    def test_within_a_structure(self):
        before = self.BEFORE + [begin(0), member(4, 0), member(4, 3), member(4, 0), close(4)]
        self.assertEqual(all_leaves(before, 4), [[0, 8, 0], [32, 64, 3], [96, 8, 0]])

    def test_array_of_them(self):
        self.assertEqual(all_leaves(self.BEFORE + [array(3, 3)], 4), [[0, 64, 3], [64, 64, 3], [128, 64, 3]])

    def test_in_a_union(self):
        self.assertEqual(all_leaves(self.BEFORE + [begin(1), member(4, 3), close(4)], 4), [[0, 64, 4]])

    def test_with_nothing_but_bits_without_a_name(self):
        self.assertEqual(all_leaves([scalar(4, 4), begin(1), bits(1, 0, 9, 0), close(1)], 1), [[0, 16, 1]])

    def test_of_a_structure_that_has_no_leaf(self):
        before = [scalar(4, 4), begin(0), bits(1, 0, 9, 0), close(1), begin(1), member(2, 1), close(2)]
        self.assertEqual(all_leaves(before, 1), [])
        self.assertEqual(all_leaves(before, 2), [[0, 16, 2]])

    def test_of_size_0(self):
        before = [scalar(8, 8), array(0, 0), begin(1), close(2), begin(1), member(3, 1), bits(3, 0, 0, 0), close(3)]
        before += [array(3, 5), begin(0), member(5, 2), member(5, 3), member(5, 4), member(5, 0), close(5)]
        self.assertEqual([all_leaves(before, t) for t in (2, 3, 4)], [[], [], []])
        self.assertEqual(all_leaves(before, 5), [[0, 64, 0]])


class BitFields(unittest.TestCase):
    def test_with_and_without_a_name(self):
        before = [scalar(4, 4), scalar(1, 1), begin(0), bits(2, 0, 3), bits(2, 0, 4, 0), bits(2, 1, 1), bits(2, 0, 0, 0)]
        before += [bits(2, 1, 8), bits(2, 0, 25), member(2, 1), bits(2, 1, 2, 0), close(2)]
        expected = [[0, 3, 0], [7, 1, 1], [32, 8, 1], [64, 25, 0], [96, 8, 1]]
        self.assertEqual(all_leaves(before, 2), expected)
        twice = expected + [[128 + bit, width, u] for bit, width, u in expected]
        self.assertEqual(all_leaves(before + [array(2, 2)], 3), twice)

    def test_only_without_a_name(self):
        before = [scalar(4, 4), begin(0), bits(1, 0, 3, 0), bits(1, 0, 0, 0), bits(1, 0, 32, 0), close(1), array(1, 9)]
        self.assertEqual([all_leaves(before, 1), all_leaves(before, 2)], [[], []])


class NoLeaf(unittest.TestCase):
    def test_structure_without_members(self):
        before = [begin(0), close(0)]
        for k in (0, 1, FAR):
            self.assertEqual(last(before + [leaf(0, k)]), [-5])

    def test_array_of_0(self):
        before = [scalar(4, 4), array(0, 0), array(1, 7), begin(0), member(3, 1), member(3, 2), close(3)]
        self.assertEqual([all_leaves(before, t) for t in (1, 2, 3)], [[], [], []])

    def test_very_many_of_nothing(self):
        before = [begin(0), close(0), array(0, FAR), array(1, FAR), begin(0), member(3, 2), member(3, 1), close(3)]
        asked = [leaf(t, k) for t in (1, 2, 3) for k in (0, 1, FAR)] + [measure(2)]
        self.assertEqual(run_quick(before + asked)[len(before):], [[-5]] * 9 + [[0, 0, 1]])

    def test_very_many_bytes_without_a_leaf(self):
        before = [scalar(1, 1), begin(0), bits(1, 0, 8, 0), close(1), array(1, LIMIT)]
        self.assertEqual(run_quick(before + [leaf(2, 0), leaf(2, FAR)])[-2:], [[-5], [-5]])

    def test_the_leaf_behind_the_last(self):
        for count in (1, 2, 1000, LIMIT // 2):
            before = [scalar(2, 2), array(0, count)]
            asked = [leaf(1, count - 1), leaf(1, count), leaf(1, count + 1), leaf(1, FAR)]
            self.assertEqual(behind(before, asked), [[0, 16 * count - 16, 16, 0], [-5], [-5], [-5]])

    def test_members_that_have_none_are_passed_over(self):
        before = [scalar(1, 1), begin(0), close(1), array(0, 0), begin(1), close(3), begin(0), member(4, 1), member(4, 2)]
        before += [member(4, 0), member(4, 3), bits(4, 0, 8, 0), member(4, 1), member(4, 0), member(4, 2), close(4)]
        self.assertEqual(all_leaves(before, 4), [[0, 8, 0], [16, 8, 0]])


class LargeAndDeep(unittest.TestCase):
    def test_last_leaf_of_the_largest_array(self):
        answered = run_quick([scalar(1, 1), array(0, LIMIT), leaf(1, LIMIT - 1), leaf(1, LIMIT), leaf(1, 0)])
        self.assertEqual(answered[2:], [[0, 8 * LIMIT - 8, 8, 0], [-5], [0, 0, 8, 0]])

    def test_leaves_of_one_bit(self):
        before = [scalar(1, 1), begin(0)] + [bits(1, 0, 1)] * 8 + [close(1), array(1, LIMIT)]
        asked = [leaf(2, 8 * LIMIT - 1), leaf(2, 8 * LIMIT), leaf(2, 12345678901)]
        self.assertEqual(run_quick(before + asked)[-3:], [[0, 8 * LIMIT - 1, 1, 0], [-5], [0, 12345678901, 1, 0]])

    def test_array_of_structures_far_in(self):
        before = [scalar(8, 8), scalar(1, 1), begin(0), member(2, 1), member(2, 0), member(2, 1), close(2)]
        before += [array(2, 10 ** 10), leaf(3, 3 * 10 ** 10 - 1), leaf(3, 3 * (10 ** 10 - 5) + 1), leaf(3, 3 * 10 ** 10)]
        self.assertEqual(run_quick(before)[-3:], [[0, 192 * 10 ** 10 - 64, 8, 1], [0, 192 * 10 ** 10 - 896, 64, 0], [-5]])

    def test_behind_a_large_array(self):
        before = [scalar(1, 1), array(0, LIMIT - 2), begin(0), member(2, 0), member(2, 1), member(2, 0), close(2)]
        asked = [leaf(2, 0), leaf(2, 1), leaf(2, LIMIT - 2), leaf(2, LIMIT - 1), leaf(2, LIMIT)]
        self.assertEqual(run_quick(before + asked)[-5:], [[0, 0, 8, 0], [0, 8, 8, 0], [0, 8 * LIMIT - 16, 8, 0],
                                                          [0, 8 * LIMIT - 8, 8, 0], [-5]])

    def test_40_arrays_of_2_within_one_another(self):
        before = [scalar(1, 1)] + [array(t, 2) for t in range(40)]
        for k in (0, 1, 699050, LIMIT - 2, LIMIT - 1):
            self.assertEqual(run_quick(before + [leaf(40, k)])[-1], [0, 8 * k, 8, 0])
        self.assertEqual(last(before + [leaf(40, LIMIT)]), [-5])

    def test_190_structures_within_one_another(self):
        calls = [scalar(2, 2)]
        for t in range(1, 191):
            calls += [begin(0), member(t, t - 1), close(t)]
        self.assertEqual(run_shallow(calls + [leaf(190, 0), leaf(190, 1)])[-2:], [[0, 0, 16, 0], [-5]])

    def test_145_structures_each_with_a_byte_ahead_of_the_one_within(self):
        calls = [scalar(1, 1), scalar(2, 2)]
        for t in range(2, 147):
            calls += [begin(0), member(t, 0), member(t, t - 1), close(t)]
        asked = [leaf(146, 0), leaf(146, 7), leaf(146, 144), leaf(146, 145), leaf(146, 146)]
        self.assertEqual(run_shallow(calls + asked)[-5:], [[0, 0, 8, 0], [0, 7 * 16, 8, 0], [0, 144 * 16, 8, 0],
                                                           [0, 145 * 16, 16, 1], [-5]])

    def test_255_arrays_and_structures_within_one_another(self):
        calls = [scalar(4, 4)]
        for t in range(1, 255, 2):
            calls += [array(t - 1, 1), begin(0), member(t + 1, t), close(t + 1)]
        calls += [array(254, 3), leaf(255, 2), leaf(255, 3)]
        self.assertEqual(run_shallow(calls)[-2:], [[0, 64, 32, 0], [-5]])

    def test_255_arrays_of_unions(self):
        calls = [scalar(4, 4), begin(1), member(1, 0), close(1)] + [array(t, 1) for t in range(1, 255)]
        self.assertEqual(run_shallow(calls + [leaf(255, 0), leaf(255, 1)])[-2:], [[0, 0, 32, 1], [-5]])

    def test_structure_of_500_members(self):
        calls = [scalar(1, 1), scalar(2, 2), begin(0)] + [member(2, 0), member(2, 1)] * 250 + [close(2), leaf(2, 499)]
        self.assertEqual(run_quick(calls)[-1], [0, 249 * 32 + 16, 16, 1])


class Wrong(unittest.TestCase):
    def test_open(self):
        for union in (0, 1):
            before = [scalar(1, 1), begin(union), member(1, 0)]
            self.assertEqual(run(before + [leaf(1, 0), close(1), leaf(1, 0)])[-3], [-1])
            self.assertEqual(run(before + [leaf(1, 9), close(1), leaf(1, 0)])[-3:], [[-1], [0], [0, 0, 8, 1 if union else 0]])

    def test_k_below_0(self):
        before = [scalar(1, 1), array(0, 3), begin(0), member(2, 1), close(2), begin(0), close(3)]
        for t in range(4):
            for k in (-1, -2, -FAR):
                self.assertEqual(last(before + [leaf(t, k)]), [-1])

    def test_no_such_kind(self):
        for t in (-FAR, -1, 1, 2, FAR):
            for k in (-1, 0, FAR):
                self.assertEqual(last([scalar(1, 1), leaf(t, k)]), [-1])


if __name__ == "__main__":
    unittest.main()
