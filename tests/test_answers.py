"""What holds for every call: the form of calls and answers, refusals that leave no trace, nothing kept or changed."""

import random
import unittest

from placebook.book import answers
from tests.helper import FAR, LIMIT, SlowBook, array, begin, bits, close, measure, member, run, scalar


def some_number(source):
    return source.choice([source.randint(-1, 12), source.randint(-1, 12), source.randint(0, 3), -FAR, FAR])


def one_of(source, book, closed):
    found = [t for t in range(len(book.types)) if book.is_type(t, closed)]
    return source.choice(found) if found else len(book.types)


def some_call(source, book):
    """Mostly one that is taken, sometimes one with an argument from anywhere."""
    t, u, plain = one_of(source, book, False), one_of(source, book, True), source.randint(0, 3)
    call = source.choice([
        scalar(source.choice([4, 16]), source.choice([1, 2, 4, 16])), array(u, source.randint(0, 4)),
        begin(0), begin(source.randint(0, 1)), close(t), measure(u),
        member(t, u), member(t, plain), member(t, u, source.choice([1, 2, 4, 8, 64])),
        bits(t, u, source.randint(0, 9), 1), bits(t, plain, 0, 0), bits(t, plain, source.randint(0, 66), 0),
        bits(t, plain, source.randint(1, 8), 1), bits(t, plain, source.randint(1, 8 * 2 ** plain), 1)])
    if source.randint(0, 15) == 0:
        call[source.randint(1, len(call) - 1)] = some_number(source)
    return call


def some_line(source):
    """Calls with the slow book's answers to them; none of its types grows large."""
    book = SlowBook()
    calls = [scalar(1, 1), scalar(2, 2), scalar(4, 4), scalar(8, 8), begin(0), begin(1)]
    expected = [book.answer(call) for call in calls]
    while len(calls) < 120:
        call = some_call(source, book)
        if call[0] == 2 and book.is_type(call[1], True) and book.types[call[1]]["size"] * call[2] > 2000:
            continue
        calls.append(call)
        expected.append(book.answer(call))
    ends = [end for t in range(len(book.types)) if book.is_type(t, False) for end in (close(t), measure(t))]
    return calls + ends, expected + [book.answer(end) for end in ends]


class Form(unittest.TestCase):
    def test_count_then_numbers(self):
        self.assertEqual(answers([1, 4, 4]), [2, 0, 0])
        self.assertEqual(answers([1, 4, 3]), [1, -1])
        self.assertEqual(answers([1, 4, 4, 3, 0, 4, 1, 0, 0, 6, 1, 7, 1]),
                         [2, 0, 0, 2, 0, 1, 2, 0, 0, 1, 0, 3, 0, 4, 4])

    def test_list_of_whole_numbers(self):
        given = answers([3, 1, 5, 0, 0, 0, 0, 6, 0, 7, 0])
        self.assertIs(type(given), list)
        self.assertTrue(all(type(number) is int for number in given))

    def test_calls_behind_those_with_other_forms(self):
        between = [[8, 0, 0], [9, 0, 0], [10, 0, 0], [11, 0, 0, 0], [11, 0, 0, 3, 7, 7, 7], [12, 0, 0, 1, 0],
                   [12, 0, 0, 1, 2, 7, 3], [11, 0, 0, 200] + [1] * 200, [13, 0]]
        for call in between:
            answered = run([call, scalar(2, 2), call, scalar(4, 2), call, measure(1)])
            self.assertEqual([answered[k] for k in (0, 1, 3, 5)], [[-1], [0, 0], [0, 1], [0, 4, 2]])
        answered = run([scalar(2, 2)] + between + [begin(0)])
        self.assertEqual(answered[-1], [0, 1])


class NothingKept(unittest.TestCase):
    CALLS = [scalar(4, 4), begin(0), member(1, 0), bits(1, 0, 3), array(1, 1), close(1), array(1, 5), measure(2),
             [12, 1, 0, 9, 4, 1, 2, 3, 4], measure(7)]

    def test_what_is_handed_in_is_not_changed(self):
        line = sum(self.CALLS, [])
        before = list(line)
        answers(line)
        self.assertEqual(line, before)

    def test_the_same_twice(self):
        line = sum(self.CALLS, [])
        first = answers(line)
        kept = list(first)
        first.append(99)
        self.assertEqual(answers(line), kept)

    def test_full_books_do_not_fill_others(self):
        run([scalar(1, 1)] * 256 + [begin(0)])
        run([scalar(1, 1), begin(0)] + [member(1, 0)] * 512)
        self.assertEqual(run([scalar(1, 1), begin(0), member(1, 0)]), [[0, 0], [0, 1], [0, 0]])


class Refusals(unittest.TestCase):
    def test_leave_no_trace(self):
        calls = [scalar(1, 1), scalar(4, 4), array(0, LIMIT - 8), begin(0), begin(1), member(3, 0), bits(3, 1, 3),
                 member(4, 1), member(3, 2), bits(4, 0, 5), close(3), measure(3), close(4), measure(4)]
        refused = [scalar(3, 1), scalar(FAR, -FAR), array(9, 1), array(0, -1), array(2, 2), begin(2), begin(-FAR),
                   member(3, 0, 3), member(3, 9), member(9, 0), member(4, 4), member(3, FAR, -FAR), bits(3, 0, 9),
                   bits(3, 1, 0, 1), bits(3, 1, 1, 2), bits(4, 2, 1), bits(3, 1, -FAR), bits(4, 4, 1, 1), close(0),
                   close(-1), close(FAR), measure(-1), measure(9)]
        plain = run(calls)
        self.assertEqual([answer[0] for answer in plain], [0] * len(calls))
        for one in refused:
            mixed = [call for kept in calls for call in (one, kept)]
            answered = run(mixed)
            self.assertEqual(answered[1::2], plain)
            self.assertTrue(all(len(answer) == 1 and answer[0] < 0 for answer in answered[0::2]), one)

    def test_too_large_leaves_no_trace(self):
        before = [scalar(1, 1), scalar(8, 8), array(0, LIMIT - 8), begin(0), member(3, 2), member(3, 0)]
        after = [member(3, 0), bits(3, 0, 7), close(3), measure(3)]
        refused = [member(3, 1), member(3, 2, 4096), bits(3, 1, 64), array(2, 2)]
        answered = run(before + refused + after)
        self.assertEqual(answered[len(before):], [[-3]] * 4 + run(before + after)[len(before):])
        self.assertEqual(answered[-1], [0, LIMIT - 5, 1])

    def test_too_many_members_leave_no_trace(self):
        before = [scalar(1, 1), scalar(8, 8), begin(0), begin(1), member(3, 0)] + [bits(2, 0, 1)] * 511
        refused = [member(2, 1, 64), bits(2, 1, 64), member(3, 1), bits(3, 1, 9)]
        after = [close(2), close(3), measure(2), measure(3)]
        answered = run(before + refused + after)
        self.assertEqual(answered[len(before):], [[-2]] * 4 + [[0], [0], [0, 64, 1], [0, 1, 1]])

    def test_ends_of_the_ranges(self):
        counts = {1: 2, 2: 2, 3: 1, 4: 3, 5: 4, 6: 1, 7: 1}
        for number, count in counts.items():
            for end in (FAR, -FAR):
                answered = run([scalar(1, 1), begin(0), [number] + [end] * count, member(1, 0), close(1), measure(1)])
                self.assertEqual(answered[2:], [[-1], [0, 0], [0], [0, 1, 1]])


class LongLines(unittest.TestCase):
    def test_600_calls(self):
        calls = [scalar(1, 1), begin(0)] + [member(1, 0), measure(0)] * 298 + [close(1), measure(1)]
        answered = run(calls)
        self.assertEqual(len(calls), 600)
        self.assertEqual(answered[-4:], [[0, 297], [0, 1, 1], [0], [0, 298, 1]])

    def test_600_calls_with_long_rows(self):
        calls = [[12, 0, 0, 0, 20] + [255] * 20] * 599 + [scalar(16, 8)]
        self.assertEqual(run(calls)[-1], [0, 0])


class AgainstTheSlowBook(unittest.TestCase):
    def test_many_lines(self):
        for seed in range(150):
            calls, expected = some_line(random.Random(seed))
            self.assertEqual(run(calls), expected, seed)


if __name__ == "__main__":
    unittest.main()
