"""What the tests share: calls by their names, answers call by call, and a slow second book to compare with."""

import inspect
import itertools
import sys

from placebook.book import answers

LIMIT = 2 ** 40
FAR = 2 ** 64


def scalar(size, alignment):
    return [1, size, alignment]


def array(t, count):
    return [2, t, count]


def begin(union):
    return [3, union]


def member(t, u, alignment=0):
    return [4, t, u, alignment]


def bits(t, u, width, named=1):
    return [5, t, u, width, named]


def close(t):
    return [6, t]


def measure(t):
    return [7, t]


def offset(t, m):
    return [8, t, m]


def leaf(t, k):
    return [9, t, k]


def leaf_at(t, byte):
    return [10, t, byte]


def read(t, m, row):
    return [11, t, m, len(row)] + list(row)


def write(t, m, v, row):
    return [12, t, m, v, len(row)] + list(row)


def best(t):
    return [13, t]


def run(calls):
    """The answers to these calls, a list for each."""
    line = [number for call in calls for number in call]
    given = answers(line)
    split = []
    position = 0
    while position < len(given):
        end = position + 1 + given[position]
        split.append(given[position + 1:end])
        position = end
    assert position == len(given) and len(split) == len(calls)
    return split


def last(calls):
    return run(calls)[-1]


def behind(before, calls):
    """The answers to the later ones of these calls."""
    return run(before + calls)[len(before):]


def measured(before, t, calls):
    """Size and alignment of t once it has got these calls and is closed."""
    return last(before + calls + [close(t), measure(t)])


def run_shallow(calls, allowed=40):
    """The answers, where only so many calls within one another are allowed."""
    usual = sys.getrecursionlimit()
    sys.setrecursionlimit(len(inspect.stack(0)) + allowed)
    try:
        return run(calls)
    finally:
        sys.setrecursionlimit(usual)


class TooManySteps(Exception):
    pass


def run_quick(calls, most=200000):
    """The answers, where only so many lines of the program may be gone through: a way to say 'quick' without a clock."""
    steps = itertools.count()

    def step(frame, event, argument):
        if next(steps) > most:
            raise TooManySteps
        return step

    usual = sys.gettrace()
    sys.settrace(step)
    try:
        return run(calls)
    finally:
        sys.settrace(usual)


class SlowBook:
    """The document's words once more, searching for each place bit by bit. For small types only."""

    NAMES = ["", "scalar", "array", "begin", "member", "bits", "close", "measure", "offset", "leaf", "leaf_at", "read",
             "write", "best"]

    def __init__(self):
        self.types = []
        self.members = 0

    def is_type(self, t, closed):
        return t in range(len(self.types)) and self.types[t]["closed"] == closed

    def is_member(self, t, m):
        return t in range(len(self.types)) and m in range(len(self.types[t]["members"]))

    def answer(self, call):
        given = call[1:]
        if call[0] in (11, 12):
            count = {11: 2, 12: 3}[call[0]]
            given = given[:count] + [given[count + 1:]]
        return getattr(self, self.NAMES[call[0]])(*given)

    def make(self, **parts):
        if len(self.types) >= 256:
            return [-2]
        self.types.append({"members": [], "union": None, **parts})
        return [0, len(self.types) - 1]

    def scalar(self, size, alignment):
        pairs = [(s, a) for s in (1, 2, 4, 8, 16) for a in (1, 2, 4, 8, 16) if a <= s]
        if (size, alignment) not in pairs:
            return [-1]
        leaves = [(0, 8 * size, len(self.types))]
        return self.make(closed=True, size=size, alignment=alignment, scalar=True, leaves=leaves)

    def array(self, t, count):
        if not self.is_type(t, True) or count < 0:
            return [-1]
        of = self.types[t]
        size = of["size"] * count
        if size > LIMIT:
            return [-3]
        times = count if of["leaves"] else 0
        leaves = [(8 * of["size"] * k + bit, width, u) for k in range(times) for bit, width, u in of["leaves"]]
        return self.make(closed=True, size=size, alignment=of["alignment"], scalar=False, leaves=leaves)

    def begin(self, union):
        if union not in (0, 1):
            return [-1]
        return self.make(closed=False, union=union, ends=[0], counting=[1], scalar=False)

    def member(self, t, u, alignment):
        if not self.is_type(t, False) or not self.is_type(u, True):
            return [-1]
        if alignment not in [0] + [2 ** k for k in range(13)]:
            return [-1]
        greatest = max(alignment, self.types[u]["alignment"])
        width = self.types[u]["size"] * 8
        return self.put(t, width, greatest, lambda bit: bit % (8 * greatest) == 0, u, "member")

    def bits(self, t, u, width, named):
        if not self.is_type(t, False) or not self.is_type(u, True) or named not in (0, 1):
            return [-1]
        of = self.types[u]
        if not of["scalar"] or of["size"] != of["alignment"] or of["size"] == 16:
            return [-4]
        stretch = 8 * of["size"]
        if not 0 <= width <= stretch or (width, named) == (0, 1):
            return [-4]

        def fits(bit):
            touched = {k // stretch for k in range(bit, bit + width)}
            return bit % stretch == 0 if width == 0 else len(touched) == 1

        return self.put(t, width, of["size"] if named else 1, fits, u, "named" if named else "nameless")

    def put(self, t, width, counting, fits, u, sort):
        if self.members >= 512:
            return [-2]
        parts = self.types[t]
        place = 0 if parts["union"] else max(parts["ends"])
        while not fits(place):
            place += 1
        parts["ends"].append(place + width)
        parts["counting"].append(counting)
        parts["members"].append({"place": place, "width": width, "alignment": counting, "u": u, "sort": sort})
        self.members += 1
        return [0, len(parts["members"]) - 1]

    def close(self, t):
        if not self.is_type(t, False):
            return [-1]
        parts = self.types[t]
        parts["alignment"] = max(parts["counting"])
        parts["size"] = self.whole(max(parts["ends"]), parts["alignment"])
        parts["leaves"] = self.union_leaves(t) if parts["union"] else self.structure_leaves(t)
        parts["closed"] = True
        return [0]

    def whole(self, used, alignment):
        size = 0
        while size * 8 < used or size % alignment != 0:
            size += 1
        return size

    def union_leaves(self, t):
        return [(0, 8 * self.types[t]["size"], t)] if self.types[t]["size"] else []

    def structure_leaves(self, t):
        leaves = []
        for one in self.types[t]["members"]:
            if one["sort"] == "named":
                leaves.append((one["place"], one["width"], one["u"]))
            if one["sort"] == "member":
                leaves += [(one["place"] + bit, width, u) for bit, width, u in self.types[one["u"]]["leaves"]]
        return leaves

    def measure(self, t):
        if not self.is_type(t, True):
            return [-1]
        return [0, self.types[t]["size"], self.types[t]["alignment"]]

    def offset(self, t, m):
        if not self.is_member(t, m):
            return [-1]
        return [0, self.types[t]["members"][m]["place"], self.types[t]["members"][m]["width"]]

    def leaf(self, t, k):
        if not self.is_type(t, True) or k < 0:
            return [-1]
        leaves = self.types[t]["leaves"]
        return [0, *leaves[k]] if k < len(leaves) else [-5]

    def leaf_at(self, t, byte):
        if not self.is_type(t, True) or byte < 0:
            return [-1]
        asked = range(8 * byte, 8 * byte + 8)
        for number, (bit, width, u) in enumerate(self.types[t]["leaves"]):
            if any(bit <= one < bit + width for one in asked):
                return [0, number]
        return [-5]

    def refused(self, t, m, row):
        if not self.is_type(t, True) or not self.is_member(t, m):
            return [-1]
        if len(row) > 64 or [number for number in row if number not in range(256)]:
            return [-1]
        one = self.types[t]["members"][m]
        of = self.types[one["u"]]
        if one["width"] == 0 or one["sort"] == "member" and (not of["scalar"] or of["size"] == 16):
            return [-4]
        return [-6] if len(row) < self.types[t]["size"] else None

    def read(self, t, m, row):
        if self.refused(t, m, row):
            return self.refused(t, m, row)
        one = self.types[t]["members"][m]
        taken = [row[bit // 8] >> bit % 8 & 1 for bit in range(one["place"], one["place"] + one["width"])]
        return [0, sum(2 ** k for k, bit in enumerate(taken) if bit)]

    def write(self, t, m, v, row):
        if v < 0 or self.refused(t, m, row):
            return [-1] if v < 0 else self.refused(t, m, row)
        one = self.types[t]["members"][m]
        if v >= 2 ** one["width"]:
            return [-7]
        every = [number >> k & 1 for number in row for k in range(8)]
        for k in range(one["width"]):
            every[one["place"] + k] = v // 2 ** k % 2
        return [0] + [sum(2 ** k for k in range(8) if every[8 * at + k]) for at in range(len(row))]

    def best(self, t):
        if not self.is_type(t, True):
            return [-1]
        parts = self.types[t]
        if parts["union"] != 0 or len(parts["members"]) > 6 or [m for m in parts["members"] if m["sort"] != "member"]:
            return [-4]
        orders = itertools.permutations(range(len(parts["members"])))
        size, order = min((self.size_in_order(parts, order), order) for order in orders)
        return [0, size, *order]

    def size_in_order(self, parts, order):
        used = 0
        for m in order:
            used += -used % (8 * parts["members"][m]["alignment"])
            used += parts["members"][m]["width"]
        used += -used % 8
        return (used + -used % (8 * parts["alignment"])) // 8
