"""The errors of the package, each with the very argument that it is about."""


class ShowError(ValueError):
    """Something that a call was passed, or asked for, is wrong."""


class InvalidEntry(ShowError):
    """An argument that has to be a name and is none."""

    def __init__(self, value=None):
        self.value = value


class InvalidEntries(ShowError):
    """An argument that has to be a list of entries and is none."""

    def __init__(self, value=None):
        self.value = value


class InvalidRow(ShowError):
    """An argument that has to be a row and is none."""

    def __init__(self, value=None):
        self.value = value


class InvalidRows(ShowError):
    """An argument that has to be a list of rows and is none."""

    def __init__(self, value=None):
        self.value = value


class InvalidPanel(ShowError):
    """An argument that has to be a panel and is none."""

    def __init__(self, value=None):
        self.value = value


class InvalidField(ShowError):
    """An argument that has to be a field and is none."""

    def __init__(self, value=None):
        self.value = value


class UnknownEntry(ShowError):
    """An argument that has to be an entry of what is spoken of and is none."""

    def __init__(self, value=None):
        self.value = value


class TakenEntry(ShowError):
    """An entry that is there already."""

    def __init__(self, value=None):
        self.value = value


class InvalidLot(ShowError):
    """An argument that has to be a lot and is none."""

    def __init__(self, value=None):
        self.value = value


class InvalidLots(ShowError):
    """An argument that has to be a list or a family of lots and is none."""

    def __init__(self, value=None):
        self.value = value


class InvalidCount(ShowError):
    """An argument that has to be a count, perhaps within bounds, and is none."""

    def __init__(self, value=None):
        self.value = value


class InvalidTable(ShowError):
    """An argument that has to be a table and is none."""

    def __init__(self, value=None):
        self.value = value


class InvalidTree(ShowError):
    """An argument that has to be a tree of heats and is none."""

    def __init__(self, value=None):
        self.value = value


class Unlike(ShowError):
    """A panel or a book that has not the same entries as another one."""

    def __init__(self, value=None):
        self.value = value


class Clash(ShowError):
    """A book or watched rounds that nothing keeps."""

    def __init__(self, value=None):
        self.value = value


class InvalidBook(ShowError):
    """An argument that has to be a book and is none."""

    def __init__(self, value=None):
        self.value = value


class InvalidLine(ShowError):
    """An argument that has to be a line of a book and is none."""

    def __init__(self, value=None):
        self.value = value


class InvalidRounds(ShowError):
    """An argument that has to be a list of watched rounds and is none."""

    def __init__(self, value=None):
        self.value = value


class InvalidChances(ShowError):
    """An argument that has to tell chances and does not."""

    def __init__(self, value=None):
        self.value = value


class InvalidStewards(ShowError):
    """An argument that has to be a list of stewards of several cards and is none."""

    def __init__(self, value=None):
        self.value = value


class LastRow(ShowError):
    """The only row of a panel, which has to stay."""

    def __init__(self, value=None):
        self.value = value


class InvalidLive(ShowError):
    """An argument that has to be a live show and is none."""

    def __init__(self, value=None):
        self.value = value


class InvalidScript(ShowError):
    """An argument that has to be a script and is none."""

    def __init__(self, value=None):
        self.value = value


class InvalidLog(ShowError):
    """An argument that has to be a log of changes and is none."""

    def __init__(self, value=None):
        self.value = value


class InvalidText(ShowError):
    """An argument that has to be a text of the kind asked for and is none."""

    def __init__(self, value=None):
        self.value = value


class NothingToUndo(ShowError):
    """No change is left that could be taken back."""


class NothingToRedo(ShowError):
    """No change is left that could be made again."""
