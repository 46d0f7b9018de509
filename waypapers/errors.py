"""The errors that the program raises."""


class WaypapersError(ValueError):
    """The base class of all errors of the program."""


class InvalidMap(WaypapersError):
    """A map would break a rule for maps."""


class InvalidQuestion(WaypapersError):
    """A question cannot be asked in this way."""


class NothingToUndo(WaypapersError):
    """There is nothing to undo."""


class NothingToRedo(WaypapersError):
    """There is nothing to redo."""


class UnknownName(WaypapersError):
    """A map has nothing with this name."""

    def __init__(self, name):
        super().__init__(f"unknown name: {name}")
        self.name = name


class InvalidRoute(WaypapersError):
    """A trip cannot drive the road with this number of a route."""

    def __init__(self, number):
        super().__init__(f"road number {number} of the route cannot be driven")
        self.number = number


class InvalidSet(WaypapersError):
    """The change with this number of a set cannot be made."""

    def __init__(self, number):
        super().__init__(f"change number {number} of the set cannot be made")
        self.number = number


class Conflict(WaypapersError):
    """Changes clash about these things."""

    def __init__(self, things):
        super().__init__("changes clash")
        self.things = list(things)


class UnknownVersion(WaypapersError):
    """A desk has no version with this number."""

    def __init__(self, number):
        super().__init__(f"unknown version: {number}")
        self.number = number


class InvalidNotation(WaypapersError):
    """The line with this number cannot stand where it stands."""

    def __init__(self, line):
        super().__init__(f"invalid notation in line {line}")
        self.line = line


class InvalidPaper(WaypapersError):
    """The line with this number of a paper cannot stand where it stands."""

    def __init__(self, line):
        super().__init__(f"invalid paper in line {line}")
        self.line = line


class NameInUse(WaypapersError):
    """Something has this name already."""

    def __init__(self, name):
        super().__init__(f"name in use: {name}")
        self.name = name
