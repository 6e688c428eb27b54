"""A second reader for small files: slow, recursive, and written down straight from the document."""

HEADER = [98, 112, 108, 105, 115, 116, 48, 48]
PLAIN = [k for k in range(32, 127) if k != 37]


class Fault(Exception):
    pass


def big(octets):
    return int.from_bytes(bytes(octets), "big")


def signed(octets):
    return int.from_bytes(bytes(octets), "big", signed=len(octets) >= 8)


class File:
    def __init__(self, data):
        self.data = data
        self.frame()
        self.objects = []
        self.places = [big(self.data[at:at + self.s]) for at in self.table_entries()]
        for at, place in zip(self.table_entries(), self.places):
            if not 8 <= place < self.table:
                raise Fault("offset", at)
        for place in self.places:
            self.objects.append(self.one(place))
        self.overlap()
        self.keys()
        self.ring()

    def frame(self):
        data = self.data
        if len(data) < 42:
            raise Fault("short", len(data))
        for at in range(8):
            if data[at] != HEADER[at]:
                raise Fault("header", at)
        end = self.end = len(data) - 32
        for at in range(end, end + 6):
            if data[at]:
                raise Fault("unused", at)
        self.s, self.r = data[end + 6], data[end + 7]
        self.count = big(data[end + 8:end + 16])
        self.top = big(data[end + 16:end + 24])
        self.table = big(data[end + 24:])
        if self.s not in range(1, 9):
            raise Fault("offsets", end + 6)
        if self.r not in range(1, 9):
            raise Fault("references", end + 7)
        if not 1 <= self.count <= 10000:
            raise Fault("count", end + 8)
        if not self.top < self.count:
            raise Fault("top", end + 16)
        if self.table < 9 or self.table + self.count * self.s != end:
            raise Fault("table", end + 24)

    def table_entries(self):
        return [self.table + k * self.s for k in range(self.count)]

    def take(self, begin, many, place):
        if begin + many > self.table:
            raise Fault("end", place)
        return self.data[begin:begin + many]

    def one(self, place):
        """(kind, place, length, references, worth, begin of the references) of an object."""
        high, n = divmod(self.data[place], 16)
        if high == 0 and n in (0, 8, 9):
            return ("none" if n == 0 else "truth", place, 1, (), {0: None, 8: False, 9: True}[n], None)
        if high == 1 and n <= 4:
            worth = signed(self.take(place + 1, 2 ** n, place))
            if not -(2 ** 63) <= worth < 2 ** 64:
                raise Fault("range", place)
            return ("integer", place, 1 + 2 ** n, (), worth, None)
        if (high, n) in ((2, 2), (2, 3), (3, 3)):
            worth = self.take(place + 1, 2 ** n, place)
            return ("real" if high == 2 else "date", place, 1 + 2 ** n, (), tuple(worth), None)
        if high == 8:
            worth = big(self.take(place + 1, n + 1, place))
            if worth >= 2 ** 64:
                raise Fault("range", place)
            return ("uid", place, n + 2, (), worth, None)
        if high in (4, 5, 6, 10, 13):
            return self.large(place, high, n)
        raise Fault("marker", place)

    def large(self, place, high, n):
        begin = place + 1
        size = n
        if n == 15:
            self.take(begin, 1, place)
            if not 0x10 <= self.data[begin] <= 0x14:
                raise Fault("size", begin)
            width = 2 ** (self.data[begin] - 0x10)
            size = signed(self.take(begin + 1, width, place))
            if size < 0:
                raise Fault("size", begin)
            begin += 1 + width
        unit = {4: 1, 5: 1, 6: 2, 10: self.r, 13: 2 * self.r}[high]
        content = self.take(begin, size * unit, place)
        length = begin + size * unit - place
        if high == 4:
            return ("data", place, length, (), tuple(content), None)
        if high in (5, 6):
            if high == 5:
                for at, octet in enumerate(content):
                    if octet > 127:
                        raise Fault("ascii", begin + at)
            units = content if high == 5 else [big(content[2 * k:2 * k + 2]) for k in range(size)]
            plain = all(unit in PLAIN for unit in units)
            worth = "".join(map(chr, units)) if plain else tuple(units)
            return ("string", place, length, (), worth, None)
        references = []
        for at in range(0, len(content), self.r):
            references.append(big(content[at:at + self.r]))
            if references[-1] >= self.count:
                raise Fault("reference", begin + at)
        return ("list" if high == 10 else "dictionary", place, length, tuple(references), None, begin)

    def overlap(self):
        owned = set()
        twice = set()
        for _, place, length, *_ in self.objects:
            for at in range(place, place + length):
                (twice if at in owned else owned).add(at)
        if twice:
            raise Fault("overlap", min(twice))
        self.owned = owned

    def keys(self):
        for kind, _, _, references, _, begin in self.objects:
            if kind == "dictionary":
                seen = []
                for at, key in enumerate(references[:len(references) // 2]):
                    kind, _, _, _, worth, _ = self.objects[key]
                    if not (kind == "string" and isinstance(worth, str)):
                        raise Fault("key", begin + at * self.r)
                    if worth in seen:
                        raise Fault("twice", begin + at * self.r)
                    seen.append(worth)

    def led_to(self, start):
        """All that one or more references lead to."""
        found = set()
        waiting = [start]
        while waiting:
            for one in self.objects[waiting.pop()][3]:
                if one not in found:
                    found.add(one)
                    waiting.append(one)
        return found

    def ring(self):
        for at in range(self.count):
            if at in self.led_to(at):
                raise Fault("ring", self.places[at])

    def unused(self):
        used = self.led_to(self.top) | {self.top}
        return [at for at in range(self.count) if at not in used]

    def gaps(self):
        free = [at for at in range(8, self.table) if at not in self.owned]
        begins = [at for at in free if at - 1 not in free]
        ends = [at + 1 for at in free if at + 1 not in free]
        return list(zip(begins, ends))

    def value(self, at=None):
        """The value written out, with its kinds, so that == compares it."""
        kind, _, _, references, worth, _ = self.objects[self.top if at is None else at]
        if kind == "list":
            return (kind, [self.value(one) for one in references])
        if kind == "dictionary":
            half = len(references) // 2
            return (kind, {self.objects[key][4]: self.value(one)
                           for key, one in zip(references[:half], references[half:])})
        return (kind, worth)

    def paths(self, at=None, way=()):
        """All paths of the value and the numbers to which they lead."""
        at = self.top if at is None else at
        yield way, at
        kind, _, _, references, _, _ = self.objects[at]
        half = len(references) // 2
        if kind == "list":
            steps = list(enumerate(references))
        else:
            steps = sorted((self.objects[key][4], one) for key, one in zip(references[:half], references[half:]))
        for step, one in steps:
            yield from self.paths(one, way + (step,))
