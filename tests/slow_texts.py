"""Where texts of values are malformed, found by all ways in which they could go on, one character after the other.

A way is what may follow, the next one last: a character, or a name below.
"""

DIGITS = "0123456789"
HEX = DIGITS + "abcdef"
PLAIN = [chr(k) for k in range(32, 127) if k != 37]
WORDS = ["null", "true", "false"]


class Twice(Exception):
    pass


def spelled(rest, symbols):
    """The way on which these follow in this order."""
    return rest + tuple(reversed(symbols))


def value_steps(rest, sign):
    if sign == '"':
        return [rest + ("string",)]
    if sign == "-":
        return [rest + ("first",)]
    if sign in DIGITS:
        return number_steps(rest, sign)
    found = [spelled(rest, word[1:]) for word in WORDS if word[0] == sign]
    marked = {"w": [("H",) * 4 + ("fours",)], "d": [("twos",)], "u": [("number",)], "r": [("H",) * 8, ("H",) * 16],
              "t": [("H",) * 16], "[": [("list",)], "{": [(("dictionary", frozenset()),)]}
    return found + [spelled(rest, symbols) for symbols in marked.get(sign, [])]


def number_steps(rest, sign):
    if sign == "0":
        return [rest]
    return [rest + (("digits", 19),)] if sign in DIGITS else []


def steps(way, sign, place):
    """All ways on which one can be behind the next character."""
    if not way:
        return []
    top, rest = way[-1], way[:-1]
    name = top[0] if isinstance(top, tuple) else top
    if name == "value":
        return value_steps(rest, sign)
    if name == "first":
        return number_steps(rest, sign) if sign != "0" else []
    if name == "number":
        return number_steps(rest, sign)
    if name == "digits":
        more = [rest + (("digits", top[1] - 1),)] if top[1] and sign in DIGITS else []
        return more + steps(rest, sign, place)
    if name == "H":
        return [rest] if sign in HEX else []
    if name in ("fours", "twos"):
        groups = (name,) + ("H",) * (3 if name == "fours" else 1)
        return ([rest + groups] if sign in HEX else []) + steps(rest, sign, place)
    if name == "string":
        return [rest] if sign == '"' else [way + ("escaped",)] if sign == "\\" else [way] if sign in PLAIN else []
    if name == "escaped":
        return [rest] if sign in '"\\' else []
    if name == "list":
        return [rest] if sign == "]" else value_steps(rest + ("items",), sign)
    if name == "items":
        return [rest] if sign == "]" else [rest + ("items", "value")] if sign == "," else []
    if name in ("dictionary", "member"):
        if sign == "}" and name == "dictionary":
            return [rest]
        return [rest + (("key", top[1], "", place),)] if sign == '"' else []
    if name == "members":
        return [rest] if sign == "}" else [rest + (("member", top[1]),)] if sign == "," else []
    if name in ("key", "escaped key"):
        return key_steps(rest, top, sign)
    return [rest] if sign == top else []


def key_steps(rest, top, sign):
    name, keys, text, begin = top
    if name == "escaped key":
        return [rest + (("key", keys, text + sign, begin),)] if sign in '"\\' else []
    if sign == "\\":
        return [rest + (("escaped key", keys, text, begin),)]
    if sign != '"':
        return [rest + (("key", keys, text + sign, begin),)] if sign in PLAIN else []
    if text in keys:
        raise Twice(begin)
    return [rest + (("members", keys | {text}), "value", ":")]


def may_end(way):
    return all(one in ("fours", "twos") or one[0] == "digits" for one in way)


def fault(text):
    """The place at which a text is malformed, or None."""
    ways = [("value",)]
    for place, sign in enumerate(text):
        try:
            ways = [after for way in ways for after in steps(way, sign, place)]
        except Twice as twice:
            return twice.args[0]
        if not ways:
            return place
    return None if any(may_end(way) for way in ways) else len(text)
