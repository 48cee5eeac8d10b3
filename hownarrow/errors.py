"""The errors of this package; each keeps what it was made from."""


class CueError(ValueError):
    """What all errors of this package are; it is raised nowhere itself."""


class Wrong(CueError):
    """The argument at this place, counted from 0, is not as described."""

    def __init__(self, place):
        self.place = place


class NoText(CueError):
    """A text is wrong from this line and column on, both counted from 0."""

    def __init__(self, line, column):
        self.line = line
        self.column = column


class NoTable(CueError):
    """What was told is no TABLE; fault is the part of it that cannot be."""

    def __init__(self, fault):
        self.fault = fault


class TooMany(CueError):
    """There are more of what was to be made than most."""

    def __init__(self, most):
        self.most = most


class NoShot(CueError):
    """There is no such shot."""


class NoCommand(CueError):
    """This line is no command."""

    def __init__(self, line):
        self.line = line


class Nothing(CueError):
    """There is nothing to take back, or nothing at this index."""
