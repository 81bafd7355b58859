"""The errors of the package: each keeps what was wrong in an attribute."""


class NoZone(LookupError):
    """No zone of the world has this name."""

    def __init__(self, zone):
        self.zone = zone


class NoSwitch(LookupError):
    """No switch of the world has this name."""

    def __init__(self, name):
        self.name = name


class NoDial(LookupError):
    """The switch has no dial with this number."""

    def __init__(self, number):
        self.number = number


class NoLevel(IndexError):
    """The zone has no fault with this level."""

    def __init__(self, level):
        self.level = level


class NoWay(IndexError):
    """The zone has no way with this number."""

    def __init__(self, way):
        self.way = way


class BadText(ValueError):
    """The text is not written as it must be."""


class BadLine(ValueError):
    """The line with this number is wrong, or cannot stand there."""

    def __init__(self, number):
        self.number = number
