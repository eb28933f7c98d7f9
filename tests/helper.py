"""What the tests share: calls by their names, answers call by call, and a slow second layout to compare with."""

from placebook.book import answers

LIMIT = 2 ** 40
FAR = 2 ** 64


def scalar(size, alignment):
    return [1, size, alignment]


def array(t, count):
    return [2, t, count]


def begin(union):
    return [3, union]


def member(t, u, alignment=0):
    return [4, t, u, alignment]


def bits(t, u, width, named=1):
    return [5, t, u, width, named]


def close(t):
    return [6, t]


def measure(t):
    return [7, t]


def run(calls):
    """The answers to these calls, a list for each."""
    line = [number for call in calls for number in call]
    given = answers(line)
    split = []
    position = 0
    while position < len(given):
        end = position + 1 + given[position]
        split.append(given[position + 1:end])
        position = end
    assert position == len(given) and len(split) == len(calls)
    return split


def last(calls):
    return run(calls)[-1]


def measured(before, t, calls):
    """Size and alignment of t once it has got these calls and is closed."""
    return last(before + calls + [close(t), measure(t)])


class SlowBook:
    """The document's words once more, searching for each place bit by bit. For small types only."""

    def __init__(self):
        self.types = []
        self.members = 0

    def is_type(self, t, closed):
        return t in range(len(self.types)) and self.types[t]["closed"] == closed

    def answer(self, call):
        names = ["", "scalar", "array", "begin", "member", "bits", "close", "measure"]
        return getattr(self, names[call[0]])(*call[1:])

    def make(self, **parts):
        if len(self.types) >= 256:
            return [-2]
        self.types.append(parts)
        return [0, len(self.types) - 1]

    def scalar(self, size, alignment):
        pairs = [(s, a) for s in (1, 2, 4, 8, 16) for a in (1, 2, 4, 8, 16) if a <= s]
        if (size, alignment) not in pairs:
            return [-1]
        return self.make(closed=True, size=size, alignment=alignment, scalar=True)

    def array(self, t, count):
        if not self.is_type(t, True) or count < 0:
            return [-1]
        size, alignment = self.types[t]["size"], self.types[t]["alignment"]
        if size * count > LIMIT:
            return [-3]
        return self.make(closed=True, size=size * count, alignment=alignment, scalar=False)

    def begin(self, union):
        if union not in (0, 1):
            return [-1]
        return self.make(closed=False, union=union, ends=[0], counting=[1], scalar=False)

    def member(self, t, u, alignment):
        if not self.is_type(t, False) or not self.is_type(u, True):
            return [-1]
        if alignment not in [0] + [2 ** k for k in range(13)]:
            return [-1]
        greatest = max(alignment, self.types[u]["alignment"])
        width = self.types[u]["size"] * 8
        return self.put(t, width, greatest, lambda bit: bit % (8 * greatest) == 0)

    def bits(self, t, u, width, named):
        if not self.is_type(t, False) or not self.is_type(u, True) or named not in (0, 1):
            return [-1]
        of = self.types[u]
        if not of["scalar"] or of["size"] != of["alignment"] or of["size"] == 16:
            return [-4]
        stretch = 8 * of["size"]
        if not 0 <= width <= stretch or (width, named) == (0, 1):
            return [-4]

        def fits(bit):
            touched = {k // stretch for k in range(bit, bit + width)}
            return bit % stretch == 0 if width == 0 else len(touched) == 1

        return self.put(t, width, of["size"] if named else 1, fits)

    def put(self, t, width, counting, fits):
        if self.members >= 512:
            return [-2]
        parts = self.types[t]
        place = 0 if parts["union"] else max(parts["ends"])
        while not fits(place):
            place += 1
        parts["ends"].append(place + width)
        parts["counting"].append(counting)
        self.members += 1
        return [0, len(parts["ends"]) - 2]

    def close(self, t):
        if not self.is_type(t, False):
            return [-1]
        parts = self.types[t]
        parts["alignment"] = max(parts["counting"])
        size = 0
        while size * 8 < max(parts["ends"]) or size % parts["alignment"] != 0:
            size += 1
        parts["size"] = size
        parts["closed"] = True
        return [0]

    def measure(self, t):
        if not self.is_type(t, True):
            return [-1]
        return [0, self.types[t]["size"], self.types[t]["alignment"]]
