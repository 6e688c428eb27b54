"""Texts of values, of files and of paths."""

from nestfile.errors import BadText
from nestfile.layout import check_bytes, numbers_octets
from nestfile.values import HIGHEST, Data, Date, Real, Uid, Wide, are_plain_numbers, check, kind_of

DIGITS = "0123456789"
FIRST_DIGITS = "123456789"
HEX_DIGITS = "0123456789abcdef"
HEX_VALUES = {"0": 0, "1": 1, "2": 2, "3": 3, "4": 4, "5": 5, "6": 6, "7": 7, "8": 8, "9": 9,
              "a": 10, "b": 11, "c": 12, "d": 13, "e": 14, "f": 15}
PLAIN = " !\"#$&'()*+,-./0123456789:;<=>?@ABCDEFGHIJKLMNOPQRSTUVWXYZ[\\]^_`abcdefghijklmnopqrstuvwxyz{|}~"
MOST_DIGITS = 20
# Stands for what is of the form of a value but none: it is no value itself, and has the same path.
WRONG = ()


def _hex(octets):
    return "".join([HEX_DIGITS[octet >> 4] + HEX_DIGITS[octet & 15] for octet in octets])


def _quoted(text):
    return '"' + text.replace("\\", "\\\\").replace('"', '\\"') + '"'


def _leaf_text(kind, part):
    """Return the text of a part that has no items or members."""
    if kind == "integer":
        return str(part)
    if kind == "string":
        return _quoted(part)
    if kind == "wide":
        return "w" + _hex(numbers_octets(part.units, 2))
    if kind == "data":
        return "d" + _hex(part.octets)
    if kind == "uid":
        return "u" + str(part.number)
    if kind == "real":
        return "r" + _hex(part.octets)
    if kind == "date":
        return "t" + _hex(part.octets)
    if kind == "truth":
        return "true" if part else "false"
    return "null"


def _text(part):
    """Return the text of a part, which is at most 100 deep."""
    kind = kind_of(part)
    if kind == "list":
        return "[" + ",".join([_text(item) for item in part]) + "]"
    if kind == "dictionary":
        return "{" + ",".join([_quoted(key) + ":" + _text(part[key]) for key in sorted(part)]) + "}"
    return _leaf_text(kind, part)


def value_text(value):
    """Return the text of a value."""
    check(value)
    return _text(value)


class Scanner:
    """A text that is read from the left to the right, and the place of the next character."""

    def __init__(self, text):
        self.text = text
        self.place = 0


def _is_ahead(scanner, signs):
    """Tell whether the next character is one of these."""
    ahead = scanner.text[scanner.place:scanner.place + 1]
    return ahead != "" and ahead in signs


def _take(scanner, signs):
    """Go behind the next character, which must be one of these, and return it."""
    if not _is_ahead(scanner, signs):
        raise BadText(scanner.place)
    scanner.place += 1
    return scanner.text[scanner.place - 1]


def _take_word(scanner, word):
    for sign in word:
        _take(scanner, sign)


def _take_end(scanner):
    if scanner.place < len(scanner.text):
        raise BadText(scanner.place)


def _read_number(scanner, first_digits):
    """Read a number without leading zeros that begins with one of these digits."""
    begin = scanner.place
    if _take(scanner, first_digits) != "0":
        while scanner.place < begin + MOST_DIGITS and _is_ahead(scanner, DIGITS):
            scanner.place += 1
    return int(scanner.text[begin:scanner.place])


def _read_integer(scanner):
    if _is_ahead(scanner, "-"):
        scanner.place += 1
        return -_read_number(scanner, FIRST_DIGITS)
    return _read_number(scanner, DIGITS)


def _read_string(scanner):
    _take(scanner, '"')
    signs = []
    while not _is_ahead(scanner, '"'):
        sign = _take(scanner, PLAIN)
        signs.append(_take(scanner, '"\\') if sign == "\\" else sign)
    scanner.place += 1
    return "".join(signs)


def _read_groups(scanner, size, least, most):
    """Read groups of so many hexadecimal digits, as long as there are more, and list the number of each group."""
    groups = []
    while len(groups) < least or (len(groups) < most and _is_ahead(scanner, HEX_DIGITS)):
        begin = scanner.place
        for _ in range(size):
            _take(scanner, HEX_DIGITS)
        groups.append(int(scanner.text[begin:scanner.place], 16))
    return groups


def _read_word(scanner):
    """Read one of the words that stand for a value alone."""
    if _is_ahead(scanner, "n"):
        _take_word(scanner, "null")
        return None
    if _is_ahead(scanner, "f"):
        _take_word(scanner, "false")
        return False
    _take_word(scanner, "true")
    return True


def _read_marked(scanner):
    """Read a part that begins with a letter of its kind."""
    sign = _take(scanner, "wdurt")
    many = len(scanner.text)
    if sign == "w":
        units = _read_groups(scanner, 4, 1, many)
        return WRONG if are_plain_numbers(units) else Wide(units)
    if sign == "d":
        return Data(_read_groups(scanner, 2, 0, many))
    if sign == "u":
        number = _read_number(scanner, DIGITS)
        return Uid(number) if number <= HIGHEST else WRONG
    if sign == "r":
        return Real(numbers_octets(_read_groups(scanner, 8, 1, 2), 4))
    return Date(numbers_octets(_read_groups(scanner, 16, 1, 1), 8))


def _read_begin(scanner):
    """Read a part without items and members, or the sign with which another one begins."""
    if _is_ahead(scanner, "["):
        scanner.place += 1
        return []
    if _is_ahead(scanner, "{"):
        scanner.place += 1
        return {}
    if _is_ahead(scanner, '"'):
        return _read_string(scanner)
    if _is_ahead(scanner, "-0123456789"):
        return _read_integer(scanner)
    if _is_ahead(scanner, "nf") or scanner.text[scanner.place:scanner.place + 2] == "tr":
        return _read_word(scanner)
    return _read_marked(scanner)


def _closing(holder):
    return "]" if isinstance(holder, list) else "}"


def _read_key(scanner, holder):
    """Read what stands before the next item or member: the key and a colon in a dictionary, nothing in a list."""
    if isinstance(holder, list):
        return None
    place = scanner.place
    key = _read_string(scanner)
    if key in holder:
        raise BadText(place)
    _take(scanner, ":")
    return key


def _close(scanner, begun, part):
    """Put a part that was read into what holds it, and all that ends behind it, too; return the last one that ends.

    `begun` lists what is begun and not ended, as (holder, key of the part that is read).
    """
    while begun:
        holder, key = begun.pop()
        if isinstance(holder, list):
            holder.append(part)
        else:
            holder[key] = part
        if _take(scanner, "," + _closing(holder)) == ",":
            begun.append((holder, _read_key(scanner, holder)))
            return part
        part = holder
    return part


def _read_part(scanner):
    """Read a part with all that it holds, however deep it is."""
    begun = []
    part = None
    ended = False
    while not ended:
        part = _read_begin(scanner)
        if isinstance(part, (list, dict)) and not _is_ahead(scanner, _closing(part)):
            begun.append((part, _read_key(scanner, part)))
        else:
            if isinstance(part, (list, dict)):
                scanner.place += 1
            part = _close(scanner, begun, part)
            ended = not begun
    return part


def read_value(text):
    """Read a value from its text, with the keys of a dictionary in any order."""
    scanner = Scanner(text)
    value = _read_part(scanner)
    _take_end(scanner)
    check(value)
    return value


def hex_text(data):
    """Return two hexadecimal digits for each byte."""
    check_bytes(data)
    return _hex(data)


def read_hex(text):
    """Read bytes from two hexadecimal digits each."""
    numbers = [HEX_VALUES.get(sign) for sign in text]
    if None in numbers:
        raise BadText(numbers.index(None))
    if len(numbers) & 1:
        raise BadText(len(numbers))
    return [16 * high + low for high, low in zip(numbers[::2], numbers[1::2])]


def path_text(path):
    """Return the text of a path: its steps separated by slashes."""
    if len(path) == 0:
        return "."
    return "/".join([_quoted(step) if isinstance(step, str) else str(step) for step in path])


def _read_step(scanner):
    if _is_ahead(scanner, '"'):
        return _read_string(scanner)
    return _read_number(scanner, DIGITS)


def read_path(text):
    """Read a path from its text."""
    scanner = Scanner(text)
    if _is_ahead(scanner, "."):
        scanner.place += 1
        _take_end(scanner)
        return ()
    steps = [_read_step(scanner)]
    while scanner.place < len(text):
        _take(scanner, "/")
        steps.append(_read_step(scanner))
    return tuple(steps)
