"""A shelf that takes its commands as strings."""

from nestfile.errors import BadText, NestError
from nestfile.files import find, octets
from nestfile.nesttexts import hex_text, path_text, read_hex, read_path, read_value, value_text
from nestfile.paths import part
from nestfile.shelf import Shelf
from nestfile.webs import depth, different, parting, parts
from nestfile.writing import write

# The forms of the words that follow each command.
FORMS = {
    "keep": ("name", "hex"),
    "write": ("name", "value"),
    "drop": ("name",),
    "replace": ("name", "path", "value"),
    "remove": ("name", "path"),
    "insert": ("name", "path", "value"),
    "back": (),
    "hex": ("name",),
    "names": (),
    "part": ("name", "path"),
    "find": ("name", "path"),
    "parts": ("name",),
    "depth": ("name",),
    "different": ("name",),
    "same": ("name", "name"),
    "claim": ("name", "name"),
}
DONE = "done"


def _read_word(form, word):
    if form == "hex":
        return read_hex(word)
    if form == "path":
        return read_path(word)
    if form == "value":
        return read_value(word)
    return word


def _parsed(row):
    """Return the first word of a command, and the list of what the other ones say."""
    command = row.split(" ", 1)[0]
    if command not in FORMS:
        raise BadText(0)
    forms = FORMS[command]
    # Only a value may have blanks.
    words = row.split(" ", len(forms)) if "value" in forms else row.split(" ")
    if len(words) != 1 + len(forms) or "" in words:
        raise BadText(len(command))
    return command, [_read_word(form, word) for form, word in zip(forms, words[1:])]


def _keep(shelf, words):
    name, data = words
    shelf.keep(name, data)
    return [DONE]


def _write(shelf, words):
    name, value = words
    shelf.keep(name, write(value))
    return [DONE]


def _drop(shelf, words):
    shelf.drop(words[0])
    return [DONE]


def _replace(shelf, words):
    name, path, value = words
    shelf.replace(name, path, value)
    return [DONE]


def _remove(shelf, words):
    name, path = words
    shelf.remove(name, path)
    return [DONE]


def _insert(shelf, words):
    name, path, value = words
    shelf.insert(name, path, value)
    return [DONE]


def _back(shelf, words):
    shelf.back()
    return [DONE]


def _hex(shelf, words):
    return [hex_text(octets(shelf.nest(words[0])))]


def _names(shelf, words):
    return shelf.names()


def _part(shelf, words):
    name, path = words
    return [value_text(part(shelf.nest(name), path))]


def _find(shelf, words):
    name, path = words
    return [str(find(shelf.nest(name), path))]


def _parts(shelf, words):
    return [str(parts(shelf.nest(words[0])))]


def _depth(shelf, words):
    return [str(depth(shelf.nest(words[0])))]


def _different(shelf, words):
    return [str(different(shelf.nest(words[0])))]


def _same(shelf, words):
    name, other = words
    path = parting(shelf.nest(name), shelf.nest(other))
    return ["same"] if path is None else ["differ " + path_text(path)]


def _claim(shelf, words):
    name, other = words
    return ["true" if shelf.claim(name, other) else "false"]


ACTIONS = {
    "keep": _keep,
    "write": _write,
    "drop": _drop,
    "replace": _replace,
    "remove": _remove,
    "insert": _insert,
    "back": _back,
    "hex": _hex,
    "names": _names,
    "part": _part,
    "find": _find,
    "parts": _parts,
    "depth": _depth,
    "different": _different,
    "same": _same,
    "claim": _claim,
}


class Desk:
    """Has a shelf and answers commands."""

    def __init__(self):
        self.shelf = Shelf()

    def tell(self, row):
        """Answer a command with a list of strings; an error is an answer, too."""
        try:
            command, words = _parsed(row)
            action = ACTIONS[command]
            return action(self.shelf, words)
        except NestError as refusal:
            return [refusal.told()]
