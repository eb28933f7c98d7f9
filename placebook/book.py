"""The way in: a list of calls on one new book, answered one after another."""

from placebook.building import array, begin, bits, close, member, scalar
from placebook.finding import measure, offset
from placebook.kinds import Book
from placebook.leaves import leaf, leaf_at
from placebook.memory import read, write
from placebook.ordering import best

# How many whole numbers stand behind each call's number, ahead of its row.
ARGUMENT_COUNTS = {1: 2, 2: 2, 3: 1, 4: 3, 5: 4, 6: 1, 7: 1, 8: 2, 9: 2, 10: 2, 11: 2, 12: 3, 13: 1}
CALLS_WITH_ROW = (11, 12)
LAST_BUILDING_CALL = 6


def answers(calls):
    book = Book()
    given = []
    position = 0
    while position < len(calls):
        number = calls[position]
        row = position + 1 + ARGUMENT_COUNTS[number]
        end = call_end(calls, number, row)
        answer = answer_call(book, number, calls[position + 1:row], calls[row + 1:end])
        given.append(len(answer))
        given.extend(answer)
        position = end
    return given


def call_end(calls, number, row):
    if number in CALLS_WITH_ROW:
        return row + 1 + calls[row]
    return row


def answer_call(book, number, given, row):
    if number <= LAST_BUILDING_CALL:
        return answer_building(book, number, given)
    return answer_telling(book, number, given, row)


def answer_building(book, number, given):
    if number == 1:
        return scalar(book, given[0], given[1])
    if number == 2:
        return array(book, given[0], given[1])
    if number == 3:
        return begin(book, given[0])
    if number == 4:
        return member(book, given[0], given[1], given[2])
    if number == 5:
        return bits(book, given[0], given[1], given[2], given[3])
    return close(book, given[0])


def answer_telling(book, number, given, row):
    if number == 7:
        return measure(book, given[0])
    if number == 8:
        return offset(book, given[0], given[1])
    if number == 9:
        return leaf(book, given[0], given[1])
    if number == 10:
        return leaf_at(book, given[0], given[1])
    if number == 11:
        return read(book, given[0], given[1], row)
    if number == 12:
        return write(book, given[0], given[1], given[2], row)
    return best(book, given[0])
