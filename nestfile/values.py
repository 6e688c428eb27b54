"""The values that a file stands for: their kinds, their limits and their likeness."""

from nestfile.errors import Large, NoValue

PERCENT = 37
LOWEST = -(2 ** 63)
HIGHEST = 2 ** 64 - 1
GREATEST_BYTE = 255
GREATEST_UNIT = 65535
MOST_DEPTH = 100
MOST_PARTS = 20000


def is_integer(thing):
    """Tell an integer from all else; True and False are not integers here."""
    return isinstance(thing, int) and not isinstance(thing, bool)


def is_between(thing, low, high):
    return is_integer(thing) and low <= thing <= high


def are_plain_numbers(numbers):
    """Tell whether all these are numbers of plain characters."""
    return min(numbers, default=32) >= 32 and max(numbers, default=32) <= 126 and PERCENT not in numbers


def are_plain(texts):
    """Tell whether all these strings are plain. They are joined, and looked at all at once."""
    # A long string may stand at thousands of places; here it is taken once.
    text = "".join(list({one: True for one in texts}))
    # 37 is the percent sign, the one sign that can be printed and is not plain.
    return text.isascii() and text.isprintable() and text.translate({37: None}) == text


def are_between(things, low, high):
    """Tell whether all these things are integers within the limits; thousands of them are looked at all at once."""
    if [thing for thing in things if thing is True or thing is False or not isinstance(thing, int)]:
        return False
    return min(things, default=low) >= low and max(things, default=high) <= high


def _are_numbers(things, highest):
    return isinstance(things, (list, tuple)) and are_between(things, 0, highest)


class Wide:
    """A string of which at least one character is not plain, as the numbers of its characters."""

    def __init__(self, units):
        if not _are_numbers(units, GREATEST_UNIT) or are_plain_numbers(units):
            raise NoValue(())
        self.units = tuple(units)

    def __eq__(self, other):
        return isinstance(other, Wide) and self.units == other.units


class Data:
    """A sequence of bytes, perhaps empty."""

    def __init__(self, octets):
        if not _are_numbers(octets, GREATEST_BYTE):
            raise NoValue(())
        self.octets = tuple(octets)

    def __eq__(self, other):
        return isinstance(other, Data) and self.octets == other.octets


class Uid:
    """A number that stands for itself, other than an integer."""

    def __init__(self, number):
        if not is_between(number, 0, HIGHEST):
            raise NoValue(())
        self.number = number

    def __eq__(self, other):
        return isinstance(other, Uid) and self.number == other.number


class Real:
    """A real number, as its 4 or 8 bytes."""

    def __init__(self, octets):
        if not _are_numbers(octets, GREATEST_BYTE) or len(octets) not in (4, 8):
            raise NoValue(())
        self.octets = tuple(octets)

    def __eq__(self, other):
        return isinstance(other, Real) and self.octets == other.octets


class Date:
    """A date, as its 8 bytes."""

    def __init__(self, octets):
        if not _are_numbers(octets, GREATEST_BYTE) or len(octets) != 8:
            raise NoValue(())
        self.octets = tuple(octets)

    def __eq__(self, other):
        return isinstance(other, Date) and self.octets == other.octets


def kind_of(part):
    """Name the kind of a part, or return None if it is of no kind."""
    if part is None:
        return "none"
    # True and False are integers to Python, so they are asked for first.
    if isinstance(part, bool):
        return "truth"
    if isinstance(part, int):
        return "integer"
    if isinstance(part, str):
        return "string"
    if isinstance(part, list):
        return "list"
    if isinstance(part, dict):
        return "dictionary"
    return _own_kind(part)


def _own_kind(part):
    if isinstance(part, Wide):
        return "wide"
    if isinstance(part, Data):
        return "data"
    if isinstance(part, Uid):
        return "uid"
    if isinstance(part, Real):
        return "real"
    if isinstance(part, Date):
        return "date"
    return None


def steps_of(part):
    """List the steps to the items or members of a part, in the order of paths."""
    if isinstance(part, list):
        return list(range(len(part)))
    if isinstance(part, dict):
        return sorted(part)
    return []


def _members(parts):
    """List what stands in all these parts, or return None if one of them is wrong; none is None or a number."""
    texts = [part for part in parts if isinstance(part, str)]
    rest = [part for part in parts if not isinstance(part, str)]
    lists = [part for part in rest if isinstance(part, list)]
    rest = [part for part in rest if not isinstance(part, list)]
    tables = [part for part in rest if isinstance(part, dict)]
    rest = [part for part in rest if not isinstance(part, (dict, Wide, Data, Uid, Real, Date))]
    keys = [key for table in tables for key in table]
    if rest or not all([isinstance(key, str) for key in keys]) or not are_plain(texts + keys):
        return None
    return [item for items in lists for item in items] + [item for table in tables for item in table.values()]


def _opened(parts):
    """List the items and members of all these parts in any order, or return None if one of the parts is wrong.

    Values of thousands of parts are checked very often: to look at many parts
    at once takes a fraction of the time of looking at each alone.
    """
    numbers = [part for part in parts if isinstance(part, int)]
    if min(numbers, default=0) < LOWEST or max(numbers, default=0) > HIGHEST:
        return None
    if len(numbers) == len(parts):
        return []
    return _members([part for part in parts if part is not None and not isinstance(part, int)])


def _first_wrong(parts):
    """Return the place of the first wrong one of these parts, or their number if none is wrong."""
    if _opened(parts) is not None:
        return len(parts)
    low = 0
    high = len(parts)
    while high - low > 1:
        middle = (low + high) // 2
        if _opened(parts[low:middle]) is None:
            high = middle
        else:
            low = middle
    return low


def _path(levels, place):
    """Return the path of the part with this place in the last level."""
    steps = []
    for level in reversed(levels[:-1]):
        for at, part in enumerate(level):
            held = steps_of(part)
            if place < len(held):
                steps.append(held[place])
                place = at
                break
            place -= len(held)
    return tuple(reversed(steps))


def _wrong_path(value):
    """Return the path of the first wrong part; there is one."""
    levels = []
    level = [value]
    found = (0, 0)
    while level:
        levels.append(level)
        place = _first_wrong(level)
        if place < len(level):
            # What stands deeper and still comes first is held by what stands before this part.
            found = (len(levels), place)
        level = [part[step] for part in level[:place] for step in steps_of(part)]
    many, place = found
    return _path(levels[:many], place)


def measured(value):
    """Return the depth and the number of parts of a value; raise NoValue or Large unless it is within the limits."""
    level = [value]
    depth = -1
    many = 0
    while level:
        depth += 1
        many += len(level)
        level = _opened(level)
    if level is None:
        raise NoValue(_wrong_path(value))
    if depth > MOST_DEPTH:
        raise Large("depth")
    if many > MOST_PARTS:
        raise Large("parts")
    return depth, many


def check(value):
    """Raise NoValue or Large unless this is a value within the limits."""
    measured(value)


def _agree(left, right):
    """Tell whether two parts are alike, if their items or members are."""
    kind = kind_of(left)
    if kind != kind_of(right):
        return False
    if kind in ("list", "dictionary"):
        return steps_of(left) == steps_of(right)
    return left == right


def alike(one, other):
    """Tell whether two values are of the same kind and equal, part by part."""
    check(one)
    check(other)
    waiting = [(one, other)]
    while waiting:
        left, right = waiting.pop()
        if not _agree(left, right):
            return False
        waiting.extend([(left[step], right[step]) for step in steps_of(left)])
    return True
