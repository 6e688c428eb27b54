"""What the document says of values and their files, written down slowly, on values that are written out."""

import making
from nestfile.values import Data, Date, Real, Uid, Wide


def from_naive(tree):
    """The value that `naive` writes down as kinds and worths."""
    kind, worth = tree
    if kind == "list":
        return [from_naive(one) for one in worth]
    if kind == "dictionary":
        return {key: from_naive(one) for key, one in worth.items()}
    if kind == "string":
        return worth if isinstance(worth, str) else Wide(worth)
    made = {"data": Data, "uid": Uid, "real": Real, "date": Date}.get(kind)
    return made(worth) if made else worth


def sign(value):
    """A text that two values share if they are alike."""
    if isinstance(value, list):
        return "[" + ",".join([sign(one) for one in value]) + "]"
    if isinstance(value, dict):
        return "{" + ",".join([repr(key) + ":" + sign(value[key]) for key in sorted(value)]) + "}"
    if value is None or isinstance(value, (bool, int, str)):
        return repr(value)
    return type(value).__name__ + repr(vars(value))


def steps(value):
    """(step, part) for each item or member of a value."""
    if isinstance(value, list):
        return list(enumerate(value))
    if isinstance(value, dict):
        return [(key, value[key]) for key in sorted(value)]
    return []


def walk(value, path=()):
    """(path, part) for each part of a value in the order of [4]."""
    yield path, value
    for step, one in steps(value):
        yield from walk(one, path + (step,))


def keys(value):
    return [key for _, part in walk(value) if isinstance(part, dict) for key in part]


def depth(value):
    return max(len(path) for path, _ in walk(value))


def different(value):
    return len({sign(part) for _, part in walk(value)} | {sign(key) for key in keys(value)})


def times(value, other):
    return sum(sign(part) == sign(other) for _, part in walk(value))


def where(value, other):
    return next((path for path, part in walk(value) if sign(part) == sign(other)), None)


def common(value, other):
    return len({sign(part) for _, part in walk(value)} & {sign(part) for _, part in walk(other)})


def differ(one, other):
    """Whether two parts are different in themselves."""
    if isinstance(one, list) and isinstance(other, list):
        return len(one) != len(other)
    if isinstance(one, dict) and isinstance(other, dict):
        return set(one) != set(other)
    return sign(one) != sign(other)


def parting(one, other):
    parts = dict(walk(other))
    for path, part in walk(one):
        if differ(part, parts[path]):
            return path
    return None


def met(value, found):
    """Put each different part and key into a dict from its sign, as they are first met."""
    if sign(value) not in found:
        found[sign(value)] = value
        if isinstance(value, dict):
            for key in sorted(value):
                found.setdefault(sign(key), key)
        for _, one in steps(value):
            met(one, found)


def leaf(value):
    if value is None or isinstance(value, bool):
        return {None: making.NONE, True: making.TRUE, False: making.FALSE}[value]
    if isinstance(value, int):
        return making.integer(value)
    if isinstance(value, Uid):
        return making.uid(value.number)
    if isinstance(value, Data):
        return making.data(value.octets)
    if isinstance(value, Real):
        return making.real(value.octets)
    if isinstance(value, Date):
        return making.date(value.octets)
    units = [ord(one) for one in value] if isinstance(value, str) else value.units
    return making.wide(units) if max(units, default=0) > 127 else making.text([chr(one) for one in units])


def shortest(value):
    """The file of [13]."""
    found = {}
    met(value, found)
    top = found.pop(sign(value))
    parts = list(found.values()) + [top]
    numbers = {name: at for at, name in enumerate(list(found) + [sign(value)])}
    width = making.least(max(0, len(parts) - 2))
    objects = []
    for part in parts:
        links = [numbers[sign(one)] for _, one in steps(part)]
        if isinstance(part, list):
            objects.append(making.array(links, width))
        elif isinstance(part, dict):
            objects.append(making.dictionary([(numbers[sign(key)], link) for key, link in zip(sorted(part), links)],
                                             width))
        else:
            objects.append(leaf(part))
    longest = max(range(len(objects)), key=lambda at: (len(objects[at]), at))
    order = [at for at in range(len(objects)) if at != longest] + [longest]
    return making.built(objects, order=order, reference_width=width)


def least_length(kind, worth, references, width):
    """The fewest bytes of an object whose references take so many bytes each."""
    if kind in ("list", "dictionary"):
        many = len(references) if kind == "list" else len(references) // 2
        return len(making.sized(0xA, many)) + width * len(references)
    return len(leaf(from_naive((kind, worth))))


def account(file):
    """The six numbers of [14], of a `naive.File`."""
    saved = shortest(from_naive(file.value()))
    unused = set(file.unused())
    signs = [sign(from_naive(file.value(at))) for at in range(file.count)]
    numbers = {"gaps": sum(end - begin for begin, end in file.gaps()), "unused": 0, "twice": 0, "wide": 0,
               "references": 0, "table": file.s * file.count - saved[-26] * count_of(saved)}
    for at, (kind, _, length, references, worth, _) in enumerate(file.objects):
        if at in unused:
            numbers["unused"] += length
        elif any(signs[one] == signs[at] for one in range(at) if one not in unused):
            numbers["twice"] += length
        else:
            numbers["wide"] += length - least_length(kind, worth, references, file.r)
            numbers["references"] += (file.r - saved[-25]) * len(references)
    return numbers


def count_of(file):
    """The number of objects that the trailer tells."""
    return int.from_bytes(bytes(file[-24:-16]), "big")


def first_met(file):
    """The numbers of a `naive.File` as [13] meets them from the top one on; no value is written out."""
    found = []
    waiting = [file.top]
    while waiting:
        at = waiting.pop()
        if at not in found:
            found.append(at)
            waiting.extend(reversed(file.objects[at][3]))
    return found


def faults(file):
    """What of [13] does not hold for a `naive.File`, whose value is not written out."""
    met = first_met(file)
    lengths = [row[2] for row in file.objects]
    stands = sorted(range(file.count), key=lambda at: file.places[at])
    longest = max(range(file.count), key=lambda at: (lengths[at], at))
    rows = {(kind, worth, references) for kind, _, _, references, worth, _ in file.objects}
    wrong = []
    if file.gaps() or file.unused() or len(rows) < file.count:
        wrong.append("gaps, unused or alike objects")
    if met != [file.count - 1] + list(range(file.count - 1)):
        wrong.append("numbers")
    if stands != [at for at in range(file.count) if at != longest] + [longest]:
        wrong.append("places")
    if file.s != making.least(max(file.places)) or file.r != making.least(max(0, file.count - 2)):
        wrong.append("widths")
    for kind, _, length, references, worth, _ in file.objects:
        labels = [file.objects[one][4] for one in references[:len(references) // 2]]
        if length != least_length(kind, worth, references, file.r):
            wrong.append("length")
        if kind == "dictionary" and labels != sorted(labels):
            wrong.append("keys")
    return wrong
