"""The errors of the package."""


class CallError(Exception):
    """The base class of all errors of the package."""


class BadValue(CallError):
    """The argument at the zero-based position at is not as described."""

    def __init__(self, at):
        self.at = at


class BadText(CallError):
    """A text tells nothing; at is the zero-based position of the first character at fault."""

    def __init__(self, at):
        self.at = at


class BadTree(CallError):
    """A text is no tree; at is the zero-based number of the first line at fault."""

    def __init__(self, at):
        self.at = at


class NoBest(CallError):
    """A call has no best method; word is "none" or "many"."""

    def __init__(self, word):
        self.word = word


class Stuck(CallError):
    """A run has come to a call without a best method; word is "none" or "many"."""

    def __init__(self, word):
        self.word = word


class Spent(CallError):
    """A run has used up what it may use; word tells of what."""

    def __init__(self, word):
        self.word = word


class NoModule(CallError):
    """There is no module of this name; name is what was passed."""

    def __init__(self, name):
        self.name = name


class TakenName(CallError):
    """There is a module of this name already."""

    def __init__(self, name):
        self.name = name


class MissingUse(CallError):
    """A module uses this name, and there is no module of it."""

    def __init__(self, name):
        self.name = name


class InUse(CallError):
    """The module of this name uses the one that was to be taken away."""

    def __init__(self, name):
        self.name = name


class NotClosed(CallError):
    """The module of this name is not closed."""

    def __init__(self, name):
        self.name = name


class Unlawful(CallError):
    """A module breaks this rule in its part number at."""

    def __init__(self, rule, at):
        self.rule = rule
        self.at = at
