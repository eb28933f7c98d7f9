"""The call 13, best: in which order a structure's members take least room."""

from placebook.kinds import BitField, Record, is_closed
from placebook.layout import place_behind, record_size
from placebook.refusals import NOT_SUITED, WRONG_ARGUMENT

MOST_ORDERED = 6


class Order:
    """Some members' numbers in an order, and the bits that are used so."""

    def __init__(self, numbers, used):
        self.numbers = numbers
        self.used = used


def best(book, t):
    if not is_closed(book, t):
        return [WRONG_ARGUMENT]
    record = book.kinds[t]
    if not has_orders(record):
        return [NOT_SUITED]
    found = best_order(record)
    return [0, record_size(found.used, record.alignment)] + found.numbers


def has_orders(kind):
    if not isinstance(kind, Record) or kind.is_union or len(kind.members) > MOST_ORDERED:
        return False
    return not any([isinstance(one, BitField) for one in kind.members])


def best_order(record):
    orders = [Order([], 0)]
    while len(orders[0].numbers) < len(record.members):
        orders = longer_orders(record, orders)
    # The orders stand by their members' numbers, and of equal ones the first is taken.
    return min(orders, key=lambda order: record_size(order.used, record.alignment))


def longer_orders(record, orders):
    """The orders with one member more, but those that can't be the answer."""
    longer = []
    least = {}
    for order in orders:
        for number in numbers_left(record, order):
            grown = grown_order(record, order, number)
            same = tuple(sorted(grown.numbers))
            # Of the same members an earlier order that uses no more is at least as good, whatever follows.
            if same not in least or grown.used < least[same]:
                least[same] = grown.used
                longer.append(grown)
    return longer


def numbers_left(record, order):
    return [number for number in range(len(record.members)) if number not in order.numbers]


def grown_order(record, order, number):
    one = record.members[number]
    return Order(order.numbers + [number], place_behind(order.used, one.alignment) + one.width)
