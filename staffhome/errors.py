"""The errors of the package: each keeps what it was made of."""


class StaffError(ValueError):
    """What all errors of the package are; it is not raised itself."""


class NoCommand(StaffError):
    """A line that is no command of the desk."""

    def __init__(self, line):
        self.line = line


class NoLine(StaffError):
    """Stations and sections that are those of no LINE."""

    def __init__(self, fault):
        self.fault = fault


class NoMove(StaffError):
    """The MOVE at an index cannot be done."""

    def __init__(self, index):
        self.index = index


class NoText(StaffError):
    """A text is at fault in a line, from a word on."""

    def __init__(self, line, column):
        self.line = line
        self.column = column


class NoTrain(StaffError):
    """There is no train of a name."""

    def __init__(self, name):
        self.name = name


class NoWay(StaffError):
    """What is asked for cannot be, for a reason."""

    def __init__(self, reason):
        self.reason = reason


class Nothing(StaffError):
    """There is nothing to take back, or to do once more."""

    def __init__(self):
        pass


class TooMany(StaffError):
    """There are more than the most that are looked at."""

    def __init__(self, most):
        self.most = most


class Used(StaffError):
    """There is a train of a name already."""

    def __init__(self, name):
        self.name = name


class Wrong(StaffError):
    """The argument at a place is not as it is described."""

    def __init__(self, place):
        self.place = place
