"""The call 13, best."""

import itertools
import random
import unittest

from tests.helper import (FAR, LIMIT, SlowBook, array, begin, behind, best, bits, close, last, measure, member, run,
                          scalar)

# Kinds 0 to 4: a scalar of 1, 2, 4, 8, 16 bytes; 5: a structure; 6: a union; 7: no byte, of alignment 8.
BASE = [scalar(1, 1), scalar(2, 2), scalar(4, 4), scalar(8, 8), scalar(16, 16), begin(0), begin(1), array(3, 0)]


def best_of(*parts):
    """What's told of a structure whose members are these: a kind, or a kind and an alignment."""
    calls = [member(5, *part) if isinstance(part, tuple) else member(5, part) for part in parts]
    return last(BASE + calls + [close(5), best(5)])


class Orders(unittest.TestCase):
    def test_no_members(self):
        self.assertEqual(best_of(), [0, 0])

    def test_one(self):
        self.assertEqual(best_of(3), [0, 8, 0])
        self.assertEqual(best_of((0, 64)), [0, 64, 0])

    def test_a_gap_is_filled(self):
        self.assertEqual(best_of(0, 2, 0), [0, 8, 0, 2, 1])
        self.assertEqual(best_of(0, 3, 1, 2), [0, 16, 0, 2, 3, 1])

    def test_six(self):
        self.assertEqual(best_of(0, 3, 0, 2, 1, 3), [0, 24, 0, 2, 4, 3, 1, 5])
        self.assertEqual(best_of(3, 0, 3, 0, 3, 0), [0, 32, 0, 1, 3, 5, 2, 4])

    def test_the_same_as_it_is(self):
        self.assertEqual(best_of(3, 2, 1, 0), [0, 16, 0, 1, 2, 3])

    def test_the_structure_itself_stays(self):
        calls = BASE + [member(5, 0), member(5, 2), member(5, 0), close(5)]
        self.assertEqual(behind(calls, [measure(5), best(5), measure(5), best(5)]),
                         [[0, 12, 4], [0, 8, 0, 2, 1], [0, 12, 4], [0, 8, 0, 2, 1]])


class FirstOfSeveral(unittest.TestCase):
    def test_all_alike(self):
        for u in (0, 1, 2, 3, 4, 7):
            size = {7: 0}.get(u, 2 ** u)
            self.assertEqual(best_of(*[u] * 6), [0, 6 * size, 0, 1, 2, 3, 4, 5])

    def test_what_is_used_less_is_not_better(self):
        # 1 byte and 4 bytes: 8 bytes of 8 are used; the other way round 5 of 8.
        self.assertEqual(best_of(0, 2), [0, 8, 0, 1])
        self.assertEqual(best_of(2, 0), [0, 8, 0, 1])

    def test_what_is_used_less_at_first_is_not_better(self):
        # 2, 1 and 16 bytes: 0 2 1 has its gap at another place than 0 1 2, but isn't smaller.
        self.assertEqual(best_of(1, 0, 4), [0, 32, 0, 1, 2])
        self.assertEqual(best_of(0, 1, 4), [0, 32, 0, 1, 2])
        self.assertEqual(best_of(0, 1, 0, 4), [0, 32, 0, 1, 2, 3])

    def test_the_first_difference_counts(self):
        # Both 0 2 1 3 and 2 0 1 3 have the least size, 0 1 2 3 hasn't.
        self.assertEqual(best_of(0, 2, 0, 2), [0, 12, 0, 2, 1, 3])


class Alignment(unittest.TestCase):
    def test_asked_for(self):
        self.assertEqual(best_of((0, 8), (0, 8)), [0, 16, 0, 1])
        self.assertEqual(best_of(0, (0, 4), 0, (2, 8)), [0, 8, 3, 1, 0, 2])
        self.assertEqual(best_of(0, (1, 16), 3), [0, 16, 1, 0, 2])

    def test_lesser_than_the_own(self):
        self.assertEqual(best_of(0, (2, 1), 0), [0, 8, 0, 2, 1])

    def test_greatest(self):
        self.assertEqual(best_of((0, 4096), 3, (0, 4096)), [0, 8192, 0, 1, 2])
        self.assertEqual(best_of(0, (0, 4096), 3), [0, 4096, 1, 0, 2])

    def test_scalars_of_lesser_alignment(self):
        before = [scalar(1, 1), scalar(8, 2), begin(0), member(2, 0), member(2, 1), member(2, 0), close(2), best(2)]
        self.assertEqual(last(before), [0, 10, 0, 2, 1])


class SizeZero(unittest.TestCase):
    def test_it_lies_where_its_alignment_allows(self):
        self.assertEqual(best_of(0, 7, 0), [0, 8, 0, 2, 1])
        self.assertEqual(best_of(3, 0, 7), [0, 16, 0, 1, 2])
        self.assertEqual(best_of(7, 0), [0, 8, 0, 1])
        self.assertEqual(best_of(7), [0, 0, 0])
        self.assertEqual(best_of((7, 4096)), [0, 0, 0])

    def test_it_uses_up_to_where_it_lies(self):
        # Behind the 4 bytes it would go to 64, and the 1 byte behind that.
        self.assertEqual(best_of(2, (7, 64), 0), [0, 64, 0, 2, 1])


class OtherMembers(unittest.TestCase):
    def test_arrays_structures_unions(self):
        before = [scalar(1, 1), scalar(4, 4), array(0, 3), begin(0), member(3, 1), member(3, 0), close(3), begin(1)]
        before += [member(4, 2), member(4, 1), close(4), begin(0), member(5, 0), member(5, 4), member(5, 2), member(5, 3)]
        self.assertEqual(last(before + [close(5), best(5)]), [0, 16, 0, 2, 1, 3])

    def test_bit_fields_within_members_are_no_hindrance(self):
        before = [scalar(1, 1), scalar(4, 4), begin(0), bits(2, 1, 3), close(2), begin(0), member(3, 0), member(3, 2)]
        self.assertEqual(last(before + [member(3, 0), close(3), best(3)]), [0, 8, 0, 2, 1])

    def test_more_than_six_within_members_are_no_hindrance(self):
        before = [scalar(1, 1), begin(0)] + [member(1, 0)] * 7 + [close(1), begin(0), member(2, 1), close(2)]
        self.assertEqual(behind(before, [best(1), best(2)]), [[-4], [0, 7, 0]])

    def test_largest(self):
        before = [scalar(1, 1), scalar(8, 8), array(0, LIMIT - 12), begin(0), member(3, 2), member(3, 1), member(3, 0)]
        self.assertEqual(behind(before, [close(3), measure(3), best(3)]), [[0], [0, LIMIT, 8], [0, LIMIT, 0, 1]])
        before = [scalar(1, 1), scalar(2, 2), array(0, LIMIT - 4), begin(0), member(3, 0), member(3, 1), member(3, 2)]
        self.assertEqual(behind(before, [close(3), best(3)]), [[0], [0, LIMIT, 0, 1, 2]])


class NotSuited(unittest.TestCase):
    def test_seven(self):
        for count, expected in ((6, [0, 6, 0, 1, 2, 3, 4, 5]), (7, [-4]), (8, [-4]), (400, [-4])):
            self.assertEqual(best_of(*[0] * count), expected)
        self.assertEqual(best_of(*[7] * 7), [-4])

    def test_a_bit_field(self):
        for field in (bits(5, 0, 1), bits(5, 0, 1, 0), bits(5, 3, 0, 0)):
            for before, after in ((0, 0), (1, 0), (0, 1), (2, 3)):
                calls = BASE + [member(5, 0)] * before + [field] + [member(5, 0)] * after + [close(5), best(5)]
                self.assertEqual(last(calls), [-4])

    def test_no_structure(self):
        for count in (0, 1, 7):
            self.assertEqual(last(BASE + [member(6, 0)] * count + [close(6), best(6)]), [-4])
        for t in (0, 4, 7):
            self.assertEqual(last(BASE + [best(t)]), [-4])
        self.assertEqual(last(BASE + [member(5, 0), close(5), array(5, 1), best(8)]), [-4])


class Wrong(unittest.TestCase):
    def test_open(self):
        for t in (5, 6):
            for parts in ([], [member(t, 0)], [bits(t, 0, 1)], [member(t, 0)] * 7):
                self.assertEqual(last(BASE + parts + [best(t)]), [-1])

    def test_no_such_kind(self):
        for t in (-FAR, -1, 8, 9, FAR):
            self.assertEqual(last(BASE + [close(5), best(t)]), [-1])
        self.assertEqual(run([best(0)]), [[-1]])


class AgainstEveryOrder(unittest.TestCase):
    def check(self, parts):
        book = SlowBook()
        calls = BASE + [array(0, 3), array(1, 5)] + [member(5, u, alignment) for u, alignment in parts]
        calls += [close(5), best(5)]
        expected = [book.answer(call) for call in calls]
        self.assertEqual(last(calls), expected[-1], parts)

    def test_all_of_few_scalars(self):
        for count in (2, 3, 4):
            for parts in itertools.product((0, 1, 2, 3), repeat=count):
                self.check([(u, 0) for u in parts])

    def test_many_others(self):
        source = random.Random(13)
        for count in [2, 3, 4, 5, 5, 6, 6, 6] * 40:
            kinds = [source.choice([0, 0, 1, 1, 2, 3, 4, 7, 8, 9]) for k in range(count)]
            self.check([(u, source.choice([0, 0, 0, 2, 4, 8, 16, 32])) for u in kinds])

    def test_a_line_full_of_it(self):
        parts = [member(5, u, alignment) for u, alignment in ((0, 0), (3, 16), (1, 0), (2, 32), (0, 8), (7, 64))]
        calls = BASE + parts + [close(5)] + [best(5)] * 585
        self.assertEqual(len(calls), 600)
        book = SlowBook()
        self.assertEqual(run(calls)[15:], [[book.answer(call) for call in calls[:16]][15]] * 585)


if __name__ == "__main__":
    unittest.main()
