"""The errors that wholeflow raises."""


class FlowError(Exception):
    """The base of all errors of the package."""


class BadValue(FlowError):
    """An argument is not as described; at is its zero-based position."""

    def __init__(self, at):
        self.at = at


class BadText(FlowError):
    """A text is none of a net; at is the number of its first wrong line."""

    def __init__(self, at):
        self.at = at


class BadRow(FlowError):
    """Rows are no log; at is the number of the first wrong one."""

    def __init__(self, at):
        self.at = at


class BadGrounds(FlowError):
    """A value is no grounds; at is the number of the first wrong triple."""

    def __init__(self, at):
        self.at = at


class Doubled(FlowError):
    """A step puts a second token on place."""

    def __init__(self, place):
        self.place = place


class Unsound(FlowError):
    """A net is not sound; word tells why."""

    def __init__(self, word):
        self.word = word


class NoRight(FlowError):
    """The right for act is lacking."""

    def __init__(self, act):
        self.act = act


class NoFlow(FlowError):
    """There is no such flow; flow is what was passed."""

    def __init__(self, flow):
        self.flow = flow


class NoInstance(FlowError):
    """There is no such instance; number is what was passed."""

    def __init__(self, number):
        self.number = number


class NotNow(FlowError):
    """The status of an instance does not allow it."""

    def __init__(self, status):
        self.status = status


class NoMove(FlowError):
    """The steps taken are no run of the version; at is the first wrong one."""

    def __init__(self, at):
        self.at = at


class Late(FlowError):
    """The task is no longer held so."""


class TooMany(FlowError):
    """There are as many as may be."""
