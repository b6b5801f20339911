"""The errors that the program raises: ChartError and its eight subclasses (point 102)."""


class ChartError(ValueError):
    """Every error that the program raises."""


class BadText(ChartError):
    """A value that has no canonical text, or a text that is not canonical."""


class BadDocument(ChartError):
    """A value that is not a document, or a text that is not one of a document."""


class BadKey(ChartError):
    """A value that is not a key, or too many keys."""


class BadState(ChartError):
    """A call that is not possible now, or a stored text that cannot be used."""


class DiskError(ChartError):
    """An argument that the disk does not take."""


class DiskCrashed(ChartError):
    """The disk has crashed."""


class Refused(ChartError):
    """A text that is not accepted; the reason is one of the module limits (point 104)."""

    def __init__(self, reason):
        self.reason = reason


class BadAct(ChartError):
    """A call that the publisher does not carry out; the reason is a string."""

    def __init__(self, reason):
        self.reason = reason
