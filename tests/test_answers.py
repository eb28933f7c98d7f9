"""What holds for every call: the form of calls and answers, refusals that leave no trace, nothing kept or changed."""

import random
import unittest

from placebook.book import answers
from tests.helper import (FAR, LIMIT, SlowBook, array, begin, best, bits, close, leaf, leaf_at, measure, member, offset,
                          read, run, scalar, write)

# How many whole numbers each call has ahead of its row.
COUNTS = {1: 2, 2: 2, 3: 1, 4: 3, 5: 4, 6: 1, 7: 1, 8: 2, 9: 2, 10: 2, 11: 2, 12: 3, 13: 1}


def some_number(source):
    return source.choice([source.randint(-1, 12), source.randint(-1, 12), source.randint(0, 3), -FAR, FAR,
                          source.randint(-FAR, FAR), 2 ** source.randint(0, 64)])


def some_row(source, size):
    """Mostly as many bytes as the size and few more."""
    count = source.choice([size, size, size + source.randint(0, 3), max(size - 1, 0), source.choice([0, 64, 65, 200])])
    row = [source.choice([0, 255, source.randint(0, 255)]) for k in range(min(count, 200))]
    if row and source.randint(0, 11) == 0:
        row[source.randrange(len(row))] = source.choice([-1, 256, FAR, -FAR])
    return row


def some_question(source, book):
    """One of the calls 8 to 13, mostly one that is taken."""
    records = [t for t in range(len(book.types)) if book.types[t]["members"]]
    t = source.choice(records) if records and source.randint(0, 9) else source.randint(0, len(book.types) - 1)
    parts = book.types[t]
    size, leaves = parts.get("size", 0), len(parts.get("leaves", []))
    m = source.randint(0, len(parts["members"])) if source.randint(0, 5) == 0 else source.randrange(
        max(len(parts["members"]), 1))
    width = parts["members"][m]["width"] if m < len(parts["members"]) else 8
    v = source.choice([0, 1, 2 ** width - 1, 2 ** width, source.randint(0, 2 ** min(width, 64) - 1)])
    row = some_row(source, size)
    return source.choice([offset(t, m), leaf(t, source.randint(0, leaves)), leaf(t, max(leaves - 1, 0)),
                          leaf_at(t, source.randint(0, size)), leaf_at(t, source.randint(0, size)), read(t, m, row),
                          write(t, m, min(v, FAR), row), best(t)])


def some_wild_call(source):
    """Any call with whatever the interface lets be handed in."""
    number = source.randint(1, 13)
    call = [number] + [some_number(source) for k in range(COUNTS[number])]
    row = some_row(source, source.randint(0, 8))
    return call + [len(row)] + row if number in (11, 12) else call


def one_of(source, book, closed):
    found = [t for t in range(len(book.types)) if book.is_type(t, closed)]
    return source.choice(found) if found else len(book.types)


def some_call(source, book):
    """Mostly one that is taken, sometimes one with an argument from anywhere."""
    t, u, plain = one_of(source, book, False), one_of(source, book, True), source.randint(0, 3)
    call = source.choice([
        scalar(source.choice([4, 16]), source.choice([1, 2, 4, 16])), array(u, source.randint(0, 4)),
        begin(0), begin(source.randint(0, 1)), close(t), measure(u),
        member(t, u), member(t, plain), member(t, u, source.choice([1, 2, 4, 8, 64])),
        bits(t, u, source.randint(0, 9), 1), bits(t, plain, 0, 0), bits(t, plain, source.randint(0, 66), 0),
        bits(t, plain, source.randint(1, 8), 1), bits(t, plain, source.randint(1, 8 * 2 ** plain), 1)])
    if source.randint(0, 2) == 0:
        call = some_question(source, book)
    if source.randint(0, 15) == 0:
        call[source.randint(1, COUNTS[call[0]])] = some_number(source)
    return call if source.randint(0, 19) else some_wild_call(source)


def is_large(book, call):
    """Whether the slow book would be too slow at it."""
    if call[0] == 2 and book.is_type(call[1], True):
        return 2000 < book.types[call[1]]["size"] * call[2] <= LIMIT
    return call[0] == 4 and book.is_type(call[2], True) and book.types[call[2]]["size"] > 10000


def some_line(source, length):
    """Calls with the slow book's answers to them; none of its types grows large."""
    book = SlowBook()
    calls = [scalar(1, 1), scalar(2, 2), scalar(4, 4), scalar(8, 8), begin(0), begin(1)]
    expected = [book.answer(call) for call in calls]
    numbers = sum(len(call) for call in calls)
    while len(calls) < length:
        call = some_call(source, book)
        if is_large(book, call) or numbers + len(call) > 14000:
            call = measure(one_of(source, book, True))
        calls.append(call)
        numbers += len(call)
        expected.append(book.answer(call))
    ends = [end for t in range(len(book.types)) if book.is_type(t, False) for end in (close(t), measure(t), best(t))]
    ends += [leaf_at(t, 0) for t in range(len(book.types))]
    ends = ends[:600 - length]
    return calls + ends, expected + [book.answer(end) for end in ends]


class Form(unittest.TestCase):
    def test_count_then_numbers(self):
        self.assertEqual(answers([1, 4, 4]), [2, 0, 0])
        self.assertEqual(answers([1, 4, 3]), [1, -1])
        self.assertEqual(answers([1, 4, 4, 3, 0, 4, 1, 0, 0, 6, 1, 7, 1]),
                         [2, 0, 0, 2, 0, 1, 2, 0, 0, 1, 0, 3, 0, 4, 4])

    def test_list_of_whole_numbers(self):
        given = answers([3, 1, 5, 0, 0, 0, 0, 6, 0, 7, 0])
        self.assertIs(type(given), list)
        self.assertTrue(all(type(number) is int for number in given))
        for seed in range(10):
            calls, expected = some_line(random.Random(seed), 120)
            self.assertTrue(all(type(number) is int for number in answers(sum(calls, []))))

    def test_of_each_call(self):
        before = [scalar(1, 1), scalar(4, 4), begin(0), member(2, 0), bits(2, 1, 9), member(2, 1), close(2)]
        self.assertEqual(answers(sum(before, []) + [8, 2, 1]), [2, 0, 0, 2, 0, 1, 2, 0, 2, 2, 0, 0, 2, 0, 1, 2, 0, 2, 1, 0]
                         + [3, 0, 8, 9])
        expected = [(measure(2), [0, 8, 4]), (offset(2, 2), [0, 32, 32]), (leaf(2, 1), [0, 8, 9, 1]), (leaf(2, 3), [-5]),
                    (leaf_at(2, 7), [0, 2]), (read(2, 1, [0, 255, 0, 0, 0, 0, 0, 0, 9]), [0, 255]),
                    (write(2, 0, 7, [1] * 9), [0, 7] + [1] * 8), (best(2), [-4]), (write(2, 0, 256, [1] * 9), [-7])]
        for call, answer in expected:
            self.assertEqual(answers(sum(before, []) + call)[20:], [len(answer)] + answer)

    def test_calls_behind_those_with_other_forms(self):
        between = [[8, 0, 0], [9, 0, 0], [10, 0, 0], [11, 0, 0, 0], [11, 0, 0, 3, 7, 7, 7], [12, 0, 0, 1, 0],
                   [12, 0, 0, 1, 2, 7, 3], [11, 0, 0, 200] + [1] * 200, [13, 0]]
        for call in between:
            answered = run([call, scalar(2, 2), call, scalar(4, 2), call, measure(1)])
            self.assertEqual([answered[k] for k in (0, 1, 3, 5)], [[-1], [0, 0], [0, 1], [0, 4, 2]])
        answered = run([scalar(2, 2)] + between + [begin(0)])
        self.assertEqual(answered[-1], [0, 1])


def not_to_be_called(*given):
    raise AssertionError("the list is changed")


class Unchanging(list):
    """A list that tells if it is changed."""

    append = extend = insert = pop = remove = clear = sort = reverse = not_to_be_called
    __setitem__ = __delitem__ = __iadd__ = __imul__ = not_to_be_called


class NothingKept(unittest.TestCase):
    CALLS = [scalar(4, 4), begin(0), member(1, 0), bits(1, 0, 3), array(1, 1), close(1), array(1, 5), measure(2),
             offset(1, 1), leaf(2, 3), leaf_at(2, 9), read(1, 1, list(range(8))), write(1, 0, 9, [1] * 8),
             write(1, 0, 9, [1, 2, 3, 4]), begin(0), member(3, 0), member(3, 1), close(3), best(3), best(1), measure(7)]

    def test_what_is_handed_in_is_not_changed(self):
        for calls in [self.CALLS] + [some_line(random.Random(seed), 120)[0] for seed in range(20)]:
            line = sum(calls, [])
            before = list(line)
            answers(line)
            self.assertEqual(line, before)

    def test_what_is_handed_in_is_not_changed_for_a_while_either(self):
        for calls in [self.CALLS] + [some_line(random.Random(seed), 120)[0] for seed in range(20)]:
            line = sum(calls, [])
            self.assertEqual(answers(Unchanging(line)), answers(line))

    def test_the_same_twice(self):
        for calls in [self.CALLS] + [some_line(random.Random(seed), 120)[0] for seed in range(20)]:
            line = sum(calls, [])
            first = answers(line)
            kept = list(first)
            first.append(99)
            self.assertEqual(answers(line), kept)

    def test_full_books_do_not_fill_others(self):
        run([scalar(1, 1)] * 256 + [begin(0)])
        run([scalar(1, 1), begin(0)] + [member(1, 0)] * 512)
        self.assertEqual(run([scalar(1, 1), begin(0), member(1, 0)]), [[0, 0], [0, 1], [0, 0]])


class Refusals(unittest.TestCase):
    def test_leave_no_trace(self):
        calls = [scalar(1, 1), scalar(4, 4), array(0, LIMIT - 8), begin(0), begin(1), member(3, 0), bits(3, 1, 3),
                 member(4, 1), member(3, 2), bits(4, 0, 5), close(3), measure(3), close(4), measure(4)]
        refused = [scalar(3, 1), scalar(FAR, -FAR), array(9, 1), array(0, -1), array(2, 2), begin(2), begin(-FAR),
                   member(3, 0, 3), member(3, 9), member(9, 0), member(4, 4), member(3, FAR, -FAR), bits(3, 0, 9),
                   bits(3, 1, 0, 1), bits(3, 1, 1, 2), bits(4, 2, 1), bits(3, 1, -FAR), bits(4, 4, 1, 1), close(0),
                   close(-1), close(FAR), measure(-1), measure(9), offset(0, 0), offset(3, 9), offset(4, -1), leaf(0, 1),
                   leaf(3, -1), leaf(9, 0), leaf_at(0, FAR), leaf_at(4, 9), leaf_at(-1, 0), read(3, 2, [0]),
                   read(4, 0, []), read(4, 0, [256]), write(3, 0, -1, [0]), write(4, 1, 32, [0] * 4),
                   write(4, 0, 0, [0] * 65), best(0), best(2), best(9), best(4)]
        plain = run(calls)
        self.assertEqual([answer[0] for answer in plain], [0] * len(calls))
        for one in refused:
            mixed = [call for kept in calls for call in (one, kept)]
            answered = run(mixed)
            self.assertEqual(answered[1::2], plain)
            self.assertTrue(all(len(answer) == 1 and answer[0] < 0 for answer in answered[0::2]), one)

    def test_too_large_leaves_no_trace(self):
        before = [scalar(1, 1), scalar(8, 8), array(0, LIMIT - 8), begin(0), member(3, 2), member(3, 0)]
        after = [member(3, 0), bits(3, 0, 7), close(3), measure(3)]
        refused = [member(3, 1), member(3, 2, 4096), bits(3, 1, 64), array(2, 2)]
        answered = run(before + refused + after)
        self.assertEqual(answered[len(before):], [[-3]] * 4 + run(before + after)[len(before):])
        self.assertEqual(answered[-1], [0, LIMIT - 5, 1])

    def test_too_many_members_leave_no_trace(self):
        before = [scalar(1, 1), scalar(8, 8), begin(0), begin(1), member(3, 0)] + [bits(2, 0, 1)] * 511
        refused = [member(2, 1, 64), bits(2, 1, 64), member(3, 1), bits(3, 1, 9)]
        after = [close(2), close(3), measure(2), measure(3)]
        answered = run(before + refused + after)
        self.assertEqual(answered[len(before):], [[-2]] * 4 + [[0], [0], [0, 64, 1], [0, 1, 1]])

    def test_ends_of_the_ranges(self):
        for number, count in COUNTS.items():
            for end in (FAR, -FAR):
                for row in ([], [end], [end] * 200):
                    call = [number] + [end] * count + ([len(row)] + row if number in (11, 12) else [])
                    answered = run([scalar(1, 1), begin(0), call, member(1, 0), close(1), call, measure(1)])
                    self.assertEqual(answered[2:], [[-1], [0, 0], [0], [-1], [0, 1, 1]])


class LongLines(unittest.TestCase):
    def test_600_calls(self):
        calls = [scalar(1, 1), begin(0)] + [member(1, 0), measure(0)] * 298 + [close(1), measure(1)]
        answered = run(calls)
        self.assertEqual(len(calls), 600)
        self.assertEqual(answered[-4:], [[0, 297], [0, 1, 1], [0], [0, 298, 1]])

    def test_600_calls_with_long_rows(self):
        calls = [[12, 0, 0, 0, 20] + [255] * 20] * 599 + [scalar(16, 8)]
        self.assertEqual(run(calls)[-1], [0, 0])
        calls = [scalar(2, 2), begin(0), member(1, 0), bits(1, 0, 9), close(1)]
        calls += [write(1, 1, 0, [255] * 20), read(1, 1, [255] * 20)] * 290
        self.assertEqual(run(calls)[5:], [[0, 255, 255, 0, 254] + [255] * 16, [0, 511]] * 290)


class AgainstTheSlowBook(unittest.TestCase):
    def test_many_lines(self):
        for seed in range(150):
            calls, expected = some_line(random.Random(seed), 120)
            self.assertEqual(run(calls), expected, seed)

    def test_lines_of_600_calls(self):
        for seed in range(40):
            calls, expected = some_line(random.Random(f"long {seed}"), 600)
            self.assertEqual(len(calls), 600)
            self.assertLessEqual(sum(len(call) for call in calls), 15000)
            self.assertEqual(run(calls), expected, seed)

    def test_wild_lines_of_600_calls(self):
        for seed in range(40):
            source, book = random.Random(f"wild {seed}"), SlowBook()
            calls = [scalar(4, 4), begin(0), member(1, 0), close(1), begin(1), begin(0)]
            expected = [book.answer(call) for call in calls]
            while len(calls) < 600:
                call = some_wild_call(source)
                calls.append(measure(0) if is_large(book, call) else call)
                expected.append(book.answer(calls[-1]))
            self.assertEqual(run(calls), expected, seed)

    def test_every_call_and_every_answer_comes_up(self):
        found = {}
        for seed in range(40):
            calls, expected = some_line(random.Random(f"long {seed}"), 600)
            for call, answer in zip(calls, expected):
                found.setdefault(call[0], set()).add(answer[0])
        refusals = {1: {-1}, 2: {-1, -3}, 3: {-1}, 4: {-1}, 5: {-1, -4}, 6: {-1}, 7: {-1}, 8: {-1}, 9: {-1, -5},
                    10: {-1, -5}, 11: {-1, -4, -6}, 12: {-1, -4, -6, -7}, 13: {-1, -4}}
        for number in range(1, 14):
            self.assertLessEqual(refusals[number] | {0}, found[number], number)


if __name__ == "__main__":
    unittest.main()
