"""The errors of the package, all derived from one of its own."""


class ProbeError(ValueError):
    """What all errors of this package are derived from."""

    def __init__(self):
        ValueError.__init__(self)


class InvalidProgram(ProbeError):
    """What should be a program or a source is none."""

    def __init__(self, value=None):
        ProbeError.__init__(self)
        self.value = value


class InvalidNumber(ProbeError):
    """A number is none, or out of its bounds."""

    def __init__(self, value=None):
        ProbeError.__init__(self)
        self.value = value


class InvalidList(ProbeError):
    """What should be a list of things of some kind is none."""

    def __init__(self, value=None):
        ProbeError.__init__(self)
        self.value = value


class InvalidText(ProbeError):
    """What should be a text, or follow the table, does not."""

    def __init__(self, value=None):
        ProbeError.__init__(self)
        self.value = value


class InvalidEdge(ProbeError):
    """What should be an edge of a program is none."""

    def __init__(self, value=None):
        ProbeError.__init__(self)
        self.value = value


class InvalidProfile(ProbeError):
    """What should be a profile or a coverage is none."""

    def __init__(self, value=None):
        ProbeError.__init__(self)
        self.value = value


class InvalidFlag(ProbeError):
    """What should be True or False is neither."""

    def __init__(self, value=None):
        ProbeError.__init__(self)
        self.value = value


class Unlike(ProbeError):
    """Things that should fit together do not."""

    def __init__(self, value=None):
        ProbeError.__init__(self)
        self.value = value


class TooMany(ProbeError):
    """There would be more of something than may be."""

    def __init__(self, value=None):
        ProbeError.__init__(self)
        self.value = value


class NothingToUndo(ProbeError):
    """No change stands that could be taken back."""

    def __init__(self):
        ProbeError.__init__(self)


class NothingToRedo(ProbeError):
    """No change was taken back that could be made again."""

    def __init__(self):
        ProbeError.__init__(self)
