"""The values that a file stands for: their kinds, their limits and their likeness."""

from nestfile.errors import Large, NoValue

PERCENT = 37
LOWEST = -(2 ** 63)
HIGHEST = 2 ** 64 - 1
GREATEST_BYTE = 255
GREATEST_UNIT = 65535
MOST_DEPTH = 100
MOST_PARTS = 20000


def is_integer(thing):
    """Tell an integer from all else; True and False are not integers here."""
    return isinstance(thing, int) and not isinstance(thing, bool)


def is_between(thing, low, high):
    return is_integer(thing) and low <= thing <= high


def is_plain_number(number):
    """Tell whether a number is that of a plain character."""
    return 32 <= number <= 126 and number != PERCENT


def is_plain_text(text):
    return all([is_plain_number(ord(sign)) for sign in text])


def _are_numbers(things, highest):
    return isinstance(things, (list, tuple)) and all([is_between(thing, 0, highest) for thing in things])


class Wide:
    """A string of which at least one character is not plain, as the numbers of its characters."""

    def __init__(self, units):
        if not _are_numbers(units, GREATEST_UNIT) or all([is_plain_number(unit) for unit in units]):
            raise NoValue(())
        self.units = tuple(units)

    def __eq__(self, other):
        return isinstance(other, Wide) and self.units == other.units


class Data:
    """A sequence of bytes, perhaps empty."""

    def __init__(self, octets):
        if not _are_numbers(octets, GREATEST_BYTE):
            raise NoValue(())
        self.octets = tuple(octets)

    def __eq__(self, other):
        return isinstance(other, Data) and self.octets == other.octets


class Uid:
    """A number that stands for itself, other than an integer."""

    def __init__(self, number):
        if not is_between(number, 0, HIGHEST):
            raise NoValue(())
        self.number = number

    def __eq__(self, other):
        return isinstance(other, Uid) and self.number == other.number


class Real:
    """A real number, as its 4 or 8 bytes."""

    def __init__(self, octets):
        if not _are_numbers(octets, GREATEST_BYTE) or len(octets) not in (4, 8):
            raise NoValue(())
        self.octets = tuple(octets)

    def __eq__(self, other):
        return isinstance(other, Real) and self.octets == other.octets


class Date:
    """A date, as its 8 bytes."""

    def __init__(self, octets):
        if not _are_numbers(octets, GREATEST_BYTE) or len(octets) != 8:
            raise NoValue(())
        self.octets = tuple(octets)

    def __eq__(self, other):
        return isinstance(other, Date) and self.octets == other.octets


def _kind(part):
    """Name the kind of a part, or return None if it is of no kind."""
    if part is None:
        return "none"
    # True and False are integers to Python, so they are asked for first.
    if isinstance(part, bool):
        return "truth"
    if isinstance(part, int):
        return "integer"
    if isinstance(part, str):
        return "string"
    if isinstance(part, list):
        return "list"
    if isinstance(part, dict):
        return "dictionary"
    return _own_kind(part)


def _own_kind(part):
    if isinstance(part, Wide):
        return "wide"
    if isinstance(part, Data):
        return "data"
    if isinstance(part, Uid):
        return "uid"
    if isinstance(part, Real):
        return "real"
    if isinstance(part, Date):
        return "date"
    return None


def _is_sound(part):
    """Tell whether a part is as it must be, whatever its items or members are."""
    kind = _kind(part)
    if kind == "integer":
        return LOWEST <= part <= HIGHEST
    if kind == "string":
        return is_plain_text(part)
    if kind == "dictionary":
        return all([isinstance(key, str) and is_plain_text(key) for key in part])
    return kind is not None


def _steps(part):
    """List the steps to the items or members of a part, in the order of paths."""
    if isinstance(part, list):
        return list(range(len(part)))
    if isinstance(part, dict):
        return sorted(part)
    return []


def _path(rows, row):
    """Follow the rows of `_rows` upwards and return the path that leads to the last one."""
    steps = []
    while row[1] is not None:
        steps.append(row[2])
        row = rows[row[1]]
    return tuple(reversed(steps))


def _rows(value):
    """List the parts in the order of paths, as (part, row of what holds it, step, depth)."""
    rows = []
    waiting = [(value, None, None, 0)]
    while waiting:
        row = waiting.pop()
        part = row[0]
        if not _is_sound(part):
            raise NoValue(_path(rows, row))
        at = len(rows)
        rows.append(row)
        for step in reversed(_steps(part)):
            waiting.append((part[step], at, step, row[3] + 1))
    return rows


def check(value):
    """Raise NoValue or Large unless this is a value within the limits."""
    rows = _rows(value)
    if max([row[3] for row in rows]) > MOST_DEPTH:
        raise Large("depth")
    if len(rows) > MOST_PARTS:
        raise Large("parts")


def _agree(left, right):
    """Tell whether two parts are alike, if their items or members are."""
    kind = _kind(left)
    if kind != _kind(right):
        return False
    if kind in ("list", "dictionary"):
        return _steps(left) == _steps(right)
    return left == right


def alike(one, other):
    """Tell whether two values are of the same kind and equal, part by part."""
    check(one)
    check(other)
    waiting = [(one, other)]
    while waiting:
        left, right = waiting.pop()
        if not _agree(left, right):
            return False
        waiting.extend([(left[step], right[step]) for step in _steps(left)])
    return True
