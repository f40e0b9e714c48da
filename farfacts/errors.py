"""The errors of the package."""


class FarError(ValueError):
    """The base class of all errors of the package."""


class TextFault(FarError):
    """A text is not of the form that is read, or breaks a bound."""

    def __init__(self, line, column, words):
        super().__init__(f"line {line}, column {column}: {words}")
        self.line = line
        self.column = column
        self.words = words


class OutOfRange(FarError):
    """Something that was passed is out of its bounds."""

    def __init__(self, name):
        super().__init__(f"{name} is out of its bounds")
        self.name = name


class ChangeRefused(FarError):
    """A change of a transaction cannot be made."""

    def __init__(self, number, words):
        super().__init__(f"change {number}: {words}")
        self.number = number
        self.words = words


class PolicyExists(FarError):
    """There is a policy with this id."""


class TooManyPolicies(FarError):
    """The store has as many policies as it can have."""


class NoSuchPolicy(FarError):
    """There is no policy with this id."""


class TemplateExists(FarError):
    """There is a template with this id."""


class TooManyTemplates(FarError):
    """The store has as many templates as it can have."""


class NoSuchTemplate(FarError):
    """There is no template with this id."""


class SlotsDiffer(FarError):
    """The uids that are given are not those that the slots ask for."""


class TooManyChanges(FarError):
    """As many edits are made and not undone as there can be."""


class UnlikeFacts(FarError):
    """A fact tells something else than what is known."""


class HistoryFull(FarError):
    """The history has as many versions as it can have."""


class NotKept(FarError):
    """The disk does not keep a database."""


class NotOpen(FarError):
    """The power was cut, and nothing was opened since."""


class HouseFull(FarError):
    """The area of the disk has no room for this."""


class PowerCut(FarError):
    """The power was cut while the disk was at work."""


class NoSession(FarError):
    """There is no session with this number."""


class NoLetter(FarError):
    """There is no letter with this index."""
