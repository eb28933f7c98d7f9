"""The calls leaf and leaf at of kinds too large to be gone through: what one tells must fit what the other tells."""

import random
import unittest

from tests.helper import FAR, LIMIT, array, begin, behind, bits, close, leaf, leaf_at, measure, member, run, scalar


def some_book(source):
    """Calls that make some kinds, most of them large, and the numbers of those that are closed."""
    calls = [scalar(1, 1), scalar(2, 2), scalar(4, 4), scalar(8, 8), scalar(16, 8)]
    closed = list(range(5))
    for t in range(5, 25):
        u = source.choice(closed[-4:])
        if source.randint(0, 1):
            made = [array(u, source.choice([0, 1, 2, 3, 1000, 10 ** 6, LIMIT // 16]))]
        else:
            made = [begin(int(source.randint(0, 5) == 0))]
            for part in range(source.randint(0, 5)):
                made.append(source.choice([
                    member(t, u), member(t, source.choice(closed), source.choice([0, 0, 64])),
                    bits(t, 2, source.randint(1, 20)), bits(t, 2, source.randint(0, 20), 0), bits(t, 0, 3)]))
            made.append(close(t))
        if run(calls + made)[len(calls)][0] == 0:
            calls += made
            closed.append(t)
        else:
            calls.append(scalar(1, 1))
    return calls, closed


def leaf_count(calls, t):
    """How many leaves t has, by halving."""
    low, high = 0, 8 * LIMIT + 1
    while low < high:
        middle = (low + high) // 2
        if behind(calls, [leaf(t, middle)])[0] == [-5]:
            high = middle
        else:
            low = middle + 1
    return low


class Together(unittest.TestCase):
    def check_leaf(self, calls, t, size, k):
        bit, width, u = behind(calls, [leaf(t, k)])[0][1:]
        self.assertTrue(0 <= bit < bit + width <= 8 * size)
        first, end = behind(calls, [leaf_at(t, bit // 8), leaf_at(t, (bit + width - 1) // 8)])
        for byte, answer in ((bit // 8, first), ((bit + width - 1) // 8, end)):
            self.assertEqual(answer[0], 0)
            self.assertLessEqual(answer[1], k)
            found = behind(calls, [leaf(t, number) for number in range(max(answer[1] - 1, 0), answer[1] + 1)])
            has_bits = [8 * byte < at + wide and at < 8 * byte + 8 for zero, at, wide, u in found]
            self.assertEqual(has_bits, [False, True][-len(found):])
        if bit % 8 == 0:
            self.assertEqual(first, [0, k])

    def check_order(self, calls, t, k):
        one, other = behind(calls, [leaf(t, k), leaf(t, k + 1)])
        self.assertLessEqual(one[1] + one[2], other[1])

    def test_many_books(self):
        for seed in range(30):
            source = random.Random(seed)
            calls, closed = some_book(source)
            for t in closed[-6:]:
                size = behind(calls, [measure(t)])[0][1]
                count = leaf_count(calls, t)
                self.assertEqual(behind(calls, [leaf(t, count), leaf(t, FAR), leaf_at(t, size)]), [[-5]] * 3)
                for k in {0, count - 1, count // 2, source.randrange(count)} if count else ():
                    self.check_leaf(calls, t, size, k)
                    if k + 1 < count:
                        self.check_order(calls, t, k)


if __name__ == "__main__":
    unittest.main()
