"""The errors of the package: DeskError and the classes derived from it."""


class DeskError(ValueError):
    """The class from which all errors of the package are derived."""


class InvalidWord(DeskError):
    """An argument that has to be a word is none."""

    def __init__(self, value=None):
        self.value = value


class InvalidBook(DeskError):
    """An argument that has to be a book is none."""

    def __init__(self, value=None):
        self.value = value


class InvalidState(DeskError):
    """An argument that has to be a state of a desk is none."""

    def __init__(self, value=None):
        self.value = value


class InvalidDesk(DeskError):
    """An argument that has to be a desk is none."""

    def __init__(self, value=None):
        self.value = value


class InvalidDesks(DeskError):
    """An argument that has to be a list of desks is none."""

    def __init__(self, value=None):
        self.value = value


class InvalidNames(DeskError):
    """An argument that has to be new names of states is none."""

    def __init__(self, value=None):
        self.value = value


class InvalidChange(DeskError):
    """A change does not fit."""

    def __init__(self, value=None):
        self.value = value


class InvalidChanges(DeskError):
    """An argument that has to be a list of changes is none."""

    def __init__(self, value=None):
        self.value = value


class InvalidTalk(DeskError):
    """An argument that has to be a talk is none."""

    def __init__(self, value=None):
        self.value = value


class InvalidPair(DeskError):
    """An argument that has to be a pair of states is none."""

    def __init__(self, value=None):
        self.value = value


class InvalidLot(DeskError):
    """An argument that has to be a lot is none."""

    def __init__(self, value=None):
        self.value = value


class InvalidWords(DeskError):
    """An argument that has to be a list of words is none."""

    def __init__(self, value=None):
        self.value = value


class InvalidCount(DeskError):
    """An argument that has to be a count, perhaps within bounds, is none."""

    def __init__(self, value=None):
        self.value = value


class InvalidLevels(DeskError):
    """An argument that has to be levels is none."""

    def __init__(self, value=None):
        self.value = value


class InvalidPartner(DeskError):
    """An argument that has to be a partner is none."""

    def __init__(self, value=None):
        self.value = value


class InvalidScene(DeskError):
    """An argument that has to be a scene is none."""

    def __init__(self, value=None):
        self.value = value


class InvalidDeeds(DeskError):
    """An argument that has to be deeds is none."""

    def __init__(self, value=None):
        self.value = value


class InvalidArms(DeskError):
    """An argument that has to be arms is none."""

    def __init__(self, value=None):
        self.value = value


class InvalidFrame(DeskError):
    """An argument that has to be a frame is none."""

    def __init__(self, value=None):
        self.value = value


class InvalidHall(DeskError):
    """An argument that has to be a hall is none."""

    def __init__(self, value=None):
        self.value = value


class InvalidSpot(DeskError):
    """An argument that has to be a spot of a hall is none."""

    def __init__(self, value=None):
        self.value = value


class InvalidScript(DeskError):
    """An argument that has to be a script is none."""

    def __init__(self, value=None):
        self.value = value


class InvalidText(DeskError):
    """An argument that has to be a text that a writer makes is none."""

    def __init__(self, value=None):
        self.value = value


class InvalidLog(DeskError):
    """An argument that has to be a log is none."""

    def __init__(self, value=None):
        self.value = value


class Hopeless(DeskError):
    """A desk has no partner, where one is wanted."""

    def __init__(self, value=None):
        self.value = value


class Refused(DeskError):
    """A command of a hall cannot be taken."""

    def __init__(self, value=None):
        self.value = value


class NothingToUndo(DeskError):
    """No command of a hall is left that could be taken back."""


class NothingToRedo(DeskError):
    """No command of a hall was taken back that could be made again."""
