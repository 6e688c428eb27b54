"""Nests by name, claims about them, and the way back."""

from nestfile.edits import inserted, removed, replaced
from nestfile.errors import BadCount, NoBack, NoFile, NoName
from nestfile.files import read

MOST_FILES = 8
LONGEST_NAME = 8
LETTERS = "abcdefghijklmnopqrstuvwxyz"
SIGNS = "abcdefghijklmnopqrstuvwxyz0123456789"


def _is_name(name):
    if not 1 <= len(name) <= LONGEST_NAME:
        return False
    return name[0] in LETTERS and all([sign in SIGNS for sign in name])


class Shelf:
    """Keeps nests by name."""

    def __init__(self):
        self._nests = {}
        # Claims are never changed, only replaced by others, so changes may hold on to them.
        self._claims = {}
        # For each change the name that was stored or dropped, the bytes that it had before, and the
        # claims before: the bytes alone, since thousands of nests would take too much room.
        self._changes = []

    def _note(self, name):
        """Note how things stand before a change of a name, or of none."""
        data = self._nests[name].layout.data if name in self._nests else None
        self._changes.append((name, data, self._claims))

    def _forget(self, name):
        """Remove all claims about a name."""
        self._claims = {pair: result for pair, result in self._claims.items() if name not in pair}

    def _store(self, name, data):
        """Read a file and store its nest under a name, unless the same bytes are there already."""
        fresh = read(data)
        old = self._nests.get(name)
        if old is not None and old.layout.data == fresh.layout.data:
            return
        self._note(name)
        self._nests[name] = fresh
        if old is not None and old != fresh:
            self._forget(name)

    def keep(self, name, data):
        """Read a file and store its nest under a name."""
        if not _is_name(name):
            raise NoName(name)
        if name not in self._nests and len(self._nests) >= MOST_FILES:
            raise BadCount("files", len(self._nests) + 1)
        self._store(name, data)

    def drop(self, name):
        """Remove a name and its nest."""
        self.nest(name)
        self._note(name)
        del self._nests[name]
        self._forget(name)

    def nest(self, name):
        """Return the nest with a name."""
        if name not in self._nests:
            raise NoFile(name)
        return self._nests[name]

    def names(self):
        """List all names in ascending order."""
        return sorted(self._nests)

    def replace(self, name, path, value):
        """Put a value in the place of a part of a nest."""
        self._store(name, replaced(self.nest(name), path, value))

    def remove(self, name, path):
        """Remove an item or a member from a nest."""
        self._store(name, removed(self.nest(name), path))

    def insert(self, name, path, value):
        """Insert an item into a nest, or add a member to it."""
        self._store(name, inserted(self.nest(name), path, value))

    def claim(self, name, other):
        """Tell whether two nests are equal, and store this as a claim."""
        result = self.nest(name) == self.nest(other)
        pair = (min(name, other), max(name, other))
        if pair not in self._claims:
            self._note(None)
            claims = {known: self._claims[known] for known in self._claims}
            claims[pair] = result
            self._claims = claims
        return result

    def claims(self):
        """List all claims as (name, other, result), with the smaller name first, in ascending order."""
        return sorted([(pair[0], pair[1], result) for pair, result in self._claims.items()])

    def back(self):
        """Undo the last change."""
        if not self._changes:
            raise NoBack()
        name, data, claims = self._changes.pop()
        if data is not None:
            self._nests[name] = read(data)
        elif name is not None:
            del self._nests[name]
        self._claims = claims

    def many(self):
        """Return the number of changes that can be undone."""
        return len(self._changes)
