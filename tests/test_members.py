"""The call 4, member."""

import unittest

from tests.helper import FAR, LIMIT, array, begin, bits, close, last, measure, measured, member, run, scalar

# Kinds 0 to 4: a scalar of each size; 5: a structure; 6: a union.
BASE = [scalar(1, 1), scalar(2, 2), scalar(4, 4), scalar(8, 8), scalar(16, 16), begin(0), begin(1)]


def structure(*calls):
    return measured(BASE, 5, list(calls))


def union(*calls):
    return measured(BASE, 6, list(calls))


class Places(unittest.TestCase):
    def test_behind_one_another(self):
        self.assertEqual(structure(member(5, 0)), [0, 1, 1])
        self.assertEqual(structure(member(5, 0), member(5, 0), member(5, 0)), [0, 3, 1])
        self.assertEqual(structure(member(5, 0), member(5, 2)), [0, 8, 4])
        self.assertEqual(structure(member(5, 2), member(5, 0)), [0, 8, 4])
        self.assertEqual(structure(member(5, 0), member(5, 1), member(5, 2)), [0, 8, 4])
        self.assertEqual(structure(member(5, 0), member(5, 3), member(5, 0)), [0, 24, 8])
        self.assertEqual(structure(member(5, 0), member(5, 4)), [0, 32, 16])

    def test_in_a_union(self):
        self.assertEqual(union(member(6, 0)), [0, 1, 1])
        self.assertEqual(union(member(6, 3), member(6, 0)), [0, 8, 8])
        self.assertEqual(union(member(6, 0), member(6, 3), member(6, 2)), [0, 8, 8])

    def test_union_size_goes_up_to_its_alignment(self):
        before = [scalar(1, 1), array(0, 5), scalar(4, 4), begin(1)]
        self.assertEqual(measured(before, 3, [member(3, 1), member(3, 2)]), [0, 8, 4])
        self.assertEqual(measured(before, 3, [member(3, 1)]), [0, 5, 1])

    def test_scalar_of_lesser_alignment(self):
        before = [scalar(1, 1), scalar(8, 2), begin(0)]
        self.assertEqual(measured(before, 2, [member(2, 0), member(2, 1)]), [0, 10, 2])

    def test_structures_within_structures(self):
        inner = [scalar(4, 4), scalar(1, 1), begin(0), member(2, 0), member(2, 1), close(2), begin(0)]
        self.assertEqual(measured(inner, 3, [member(3, 1), member(3, 2), member(3, 1)]), [0, 16, 4])

    def test_union_within_a_structure_within_a_union(self):
        calls = [scalar(1, 1), scalar(8, 8), array(0, 9), begin(1), member(3, 1), member(3, 2), close(3)]
        calls += [begin(0), member(4, 0), member(4, 3), member(4, 0), close(4)]
        calls += [begin(1), member(5, 4), member(5, 3), close(5), measure(3), measure(4), measure(5)]
        self.assertEqual(run(calls)[-3:], [[0, 16, 8], [0, 32, 8], [0, 32, 8]])

    def test_behind_bit_fields(self):
        self.assertEqual(structure(bits(5, 2, 3), member(5, 0), member(5, 0), member(5, 0)), [0, 4, 4])
        self.assertEqual(structure(bits(5, 0, 8), member(5, 0)), [0, 2, 1])
        self.assertEqual(structure(bits(5, 1, 9), member(5, 0)), [0, 4, 2])
        self.assertEqual(structure(bits(5, 0, 1), member(5, 1), member(5, 0)), [0, 6, 2])


class SizeZero(unittest.TestCase):
    def test_used_goes_up_to_where_it_lies(self):
        before = [scalar(1, 1), scalar(8, 8), array(1, 0), begin(0)]
        self.assertEqual(measured(before, 3, [member(3, 0), member(3, 2)]), [0, 8, 8])
        self.assertEqual(measured(before, 3, [member(3, 0), member(3, 2), member(3, 0)]), [0, 16, 8])
        self.assertEqual(measured(before, 3, [member(3, 2)]), [0, 0, 8])
        self.assertEqual(measured(before, 3, [member(3, 2), member(3, 0)]), [0, 8, 8])

    def test_decides_where_the_next_one_lies(self):
        before = [scalar(1, 1), begin(0), close(1), begin(0)]
        self.assertEqual(measured(before, 2, [member(2, 0), member(2, 1, 4), member(2, 0)]), [0, 8, 4])
        self.assertEqual(measured(before, 2, [member(2, 0), member(2, 1), member(2, 0)]), [0, 2, 1])

    def test_in_a_union(self):
        before = [scalar(1, 1), scalar(8, 8), array(1, 0), begin(1)]
        self.assertEqual(measured(before, 3, [member(3, 2)]), [0, 0, 8])
        self.assertEqual(measured(before, 3, [member(3, 2), member(3, 0)]), [0, 8, 8])


class Alignment(unittest.TestCase):
    def test_none_or_lesser_is_the_own(self):
        for alignment in (0, 1, 2, 4, 8):
            self.assertEqual(structure(member(5, 0), member(5, 3, alignment)), [0, 16, 8])
            self.assertEqual(union(member(6, 0), member(6, 3, alignment)), [0, 8, 8])

    def test_greater(self):
        for power in range(4, 13):
            asked = 2 ** power
            self.assertEqual(structure(member(5, 0), member(5, 3, asked)), [0, 2 * asked, asked])
            self.assertEqual(union(member(6, 0), member(6, 3, asked)), [0, asked, asked])

    def test_every_one_that_is_told(self):
        for alignment in [2 ** power for power in range(13)]:
            expected = [0, alignment + 1 if alignment == 1 else 2 * alignment, alignment]
            self.assertEqual(structure(member(5, 0), member(5, 0, alignment)), expected)

    def test_others(self):
        for alignment in (-FAR, -4096, -2, -1, 3, 5, 6, 7, 12, 4095, 4097, 8192, 2 ** 63, FAR):
            for t in (5, 6):
                self.assertEqual(last(BASE + [member(t, 0, alignment)]), [-1])

    def test_goes_on_to_what_holds_it(self):
        calls = BASE + [member(5, 0, 64), close(5), array(5, 3), member(6, 7), close(6), measure(7), measure(6)]
        self.assertEqual(run(calls)[-2:], [[0, 192, 64], [0, 192, 64]])


class WrongKinds(unittest.TestCase):
    def test_t_is_no_kind_or_closed(self):
        for t in (-FAR, -1, 0, 7, 8, FAR):
            self.assertEqual(last(BASE + [member(t, 0)]), [-1])
        for t in (5, 6):
            self.assertEqual(last(BASE + [close(t), member(t, 0)]), [-1])

    def test_t_is_an_array(self):
        self.assertEqual(last([scalar(1, 1), array(0, 1), member(1, 0)]), [-1])

    def test_u_is_no_kind_or_not_closed(self):
        for t in (5, 6):
            for u in (-FAR, -1, 5, 6, 7, 8, FAR):
                self.assertEqual(last(BASE + [member(t, u)]), [-1])


class Numbers(unittest.TestCase):
    def test_from_0_on_in_each(self):
        calls = [member(5, 0), member(5, 1), member(6, 0), bits(5, 2, 3), bits(6, 2, 0, 0), member(5, 0), member(6, 0)]
        answered = run(BASE + calls)[len(BASE):]
        self.assertEqual(answered, [[0, 0], [0, 1], [0, 0], [0, 2], [0, 1], [0, 3], [0, 2]])

    def test_512_in_all(self):
        calls = BASE + [member(5, 0)] * 200 + [member(6, 1)] * 312
        answered = run(calls + [member(5, 0), member(6, 0), bits(5, 0, 1), member(5, 0, 3), close(5), close(6)]
                       + [measure(5), measure(6)])
        self.assertEqual(answered[len(calls) - 1:], [[0, 311], [-2], [-2], [-2], [-1], [0], [0], [0, 200, 1], [0, 2, 2]])

    def test_bit_fields_of_any_sort_are_among_the_512(self):
        calls = BASE + [member(5, 0), bits(5, 0, 0, 0), bits(5, 0, 1, 0), bits(6, 0, 1)] * 128
        answered = run(calls + [member(5, 0), begin(0), member(7, 0)])
        self.assertEqual(answered[len(calls) - 1:], [[0, 127], [-2], [0, 7], [-2]])

    def test_refused_ones_are_not_counted(self):
        calls = BASE + [member(5, 0, 3)] * 80 + [member(5, 0)] * 511 + [member(5, 9), member(5, 0)]
        self.assertEqual(run(calls)[-2:], [[-1], [0, 511]])


class TooLarge(unittest.TestCase):
    BASE = [scalar(1, 1), scalar(4, 4), array(0, LIMIT - 4), array(0, LIMIT), begin(0), begin(1)]

    def test_just_the_limit_and_one_more(self):
        calls = self.BASE + [member(4, 2), member(4, 1), member(4, 0), close(4), measure(4)]
        self.assertEqual(run(calls)[-5:], [[0, 0], [0, 1], [-3], [0], [0, LIMIT, 4]])

    def test_the_gap_makes_it_too_large(self):
        calls = self.BASE + [member(4, 2), member(4, 0), member(4, 1), member(4, 0, 4), member(4, 0), close(4)]
        self.assertEqual(run(calls + [measure(4)])[-6:], [[0, 1], [-3], [-3], [0, 2], [0], [0, LIMIT - 2, 1]])

    def test_size_goes_up_to_just_the_limit(self):
        self.assertEqual(measured(self.BASE, 4, [member(4, 2), member(4, 0, 4)]), [0, LIMIT, 4])
        self.assertEqual(measured(self.BASE, 4, [member(4, 2, 4096)]), [0, LIMIT, 4096])

    def test_one_of_size_0_at_the_limit(self):
        calls = [scalar(1, 1), array(0, LIMIT), array(0, 0), begin(0), member(3, 1), member(3, 2, 4096), close(3)]
        self.assertEqual(run(calls + [measure(3)])[-3:], [[0, 1], [0], [0, LIMIT, 4096]])

    def test_union_of_the_largest(self):
        self.assertEqual(measured(self.BASE, 5, [member(5, 3), member(5, 3), member(5, 1, 4096)]), [0, LIMIT, 4096])

    def test_full_is_ahead_of_too_large(self):
        calls = self.BASE + [member(4, 3), member(4, 0)] + [member(5, 0)] * 511
        answered = run(calls + [member(4, 0), member(4, 0, 3), close(5), close(4), measure(4)])
        self.assertEqual(answered[7], [-3])
        self.assertEqual(answered[len(calls) - 1:], [[0, 510], [-2], [-1], [0], [0], [0, LIMIT, 1]])


if __name__ == "__main__":
    unittest.main()
