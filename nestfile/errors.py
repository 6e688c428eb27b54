"""The errors of the package, one class for each kind of failure."""


class NestError(ValueError):
    """What all errors of the package derive from."""


class NoValue(NestError):
    """A part of a value is of none of the kinds that a value has."""

    def __init__(self, path):
        self.path = tuple(path)

    def told(self):
        return "refused novalue"


class Large(NestError):
    """A value is too deep, or has too many parts or objects."""

    def __init__(self, what):
        self.what = what

    def told(self):
        return "refused large"


class NoBytes(NestError):
    """An element of a file is not a byte."""

    def __init__(self, place):
        self.place = place

    def told(self):
        return "refused nobytes"


class Torn(NestError):
    """A file has a fault of this name at this place."""

    def __init__(self, word, place):
        self.word = word
        self.place = place

    def told(self):
        return "refused torn"


class NoPart(NestError):
    """Only so many steps of a path can be taken."""

    def __init__(self, length):
        self.length = length

    def told(self):
        return "refused nopart"


class NoPlace(NestError):
    """No part of a value has this place."""

    def __init__(self, place):
        self.place = place

    def told(self):
        return "refused noplace"


class NoObject(NestError):
    """No object of a file has this number."""

    def __init__(self, number):
        self.number = number

    def told(self):
        return "refused noobject"


class NoFit(NestError):
    """An object of this length does not fit in the place of the old one."""

    def __init__(self, length):
        self.length = length

    def told(self):
        return "refused nofit"


class BadCount(NestError):
    """There are too many things of a kind."""

    def __init__(self, what, count):
        self.what = what
        self.count = count

    def told(self):
        return "refused badcount"


class NoName(NestError):
    """A name is not valid."""

    def __init__(self, name):
        self.name = name

    def told(self):
        return "refused noname"


class NoFile(NestError):
    """A name is not in use."""

    def __init__(self, name):
        self.name = name

    def told(self):
        return "refused nofile"


class NoBack(NestError):
    """There is nothing to undo."""

    def told(self):
        return "refused noback"


class BadText(NestError):
    """A text is malformed from this place on."""

    def __init__(self, place):
        self.place = place

    def told(self):
        return "refused badtext"
