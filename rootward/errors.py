"""The errors of the package: each keeps in `value` what it was constructed with."""


class TreeError(ValueError):
    """What all other errors of the package are."""

    def __init__(self, value):
        self.value = value


class InvalidName(TreeError):
    """A name was expected; value: what was passed."""


class InvalidKind(TreeError):
    """A kind was expected; value: what was passed."""


class InvalidLabel(TreeError):
    """A label was expected; value: what was passed."""


class InvalidNumber(TreeError):
    """A number is out of its bounds; value: the number."""


class InvalidRecord(TreeError):
    """A record was expected; value: what was passed."""


class UnlikeAges(TreeError):
    """Records of one set have unlike ages; value: (name, kind)."""


class OutOfZone(TreeError):
    """A name is not at or below another one; value: the name."""


class InvalidZone(TreeError):
    """Some records are no zone's; value: the list of their faults."""


class InvalidNames(TreeError):
    """A row of a machine was expected; value: its index."""


class InvalidWord(TreeError):
    """One of some words was expected; value: what was passed."""


class InvalidMove(TreeError):
    """A move was expected; value: what was passed."""


class InvalidGap(TreeError):
    """A gap was expected; value: what was passed."""


class InvalidDeed(TreeError):
    """A condition, deed or difference was expected; value: what was passed."""


class InvalidSerial(TreeError):
    """Another serial was expected; value: what was passed."""


class Unfit(TreeError):
    """What was passed does not fit what is there; value: what was passed."""


class Unreachable(TreeError):
    """No chain leads to a serial; value: the serial."""


class InvalidMessage(TreeError):
    """A message was expected; value: what was passed."""


class Unreadable(TreeError):
    """A text or a list of bytes can't be read; value: the text, or the place."""


class InvalidForest(TreeError):
    """A forest was expected; value: the place of what is wrong, or what was passed."""


class InvalidApex(TreeError):
    """The apex of a zone of the forest was expected; value: what was passed."""


class InvalidMachines(TreeError):
    """Machines were expected; value: what was passed."""


class InvalidTelling(TreeError):
    """A telling was expected; value: what was passed, or its index."""


class InvalidBooks(TreeError):
    """Books were expected; value: what was passed."""


class InvalidViews(TreeError):
    """Views were expected; value: what was passed."""


class InvalidTimeline(TreeError):
    """A timeline or a story was expected; value: what was passed."""


class InvalidPolicy(TreeError):
    """A policy was expected; value: what was passed."""


class InvalidSchedule(TreeError):
    """An ascending list of moments was expected; value: what was passed."""


class InvalidMoment(TreeError):
    """A moment was expected, or a later one; value: what was passed."""


class InvalidEntry(TreeError):
    """An entry was expected; value: what was passed."""


class InvalidValue(TreeError):
    """A value that was in force was expected; value: what was passed."""


class InvalidNet(TreeError):
    """A net was expected; value: what was passed."""


class InvalidRun(TreeError):
    """A step of a run was expected; value: its index."""


class InvalidHistory(TreeError):
    """A history was expected; value: what was passed."""


class InvalidTimers(TreeError):
    """Timers were expected; value: what was passed."""


class InvalidStand(TreeError):
    """A stand was expected; value: what was passed."""


class InvalidPiece(TreeError):
    """A piece was expected; value: what was passed."""


class InvalidSearch(TreeError):
    """A search was expected; value: what was passed."""


class InvalidText(TreeError):
    """A text can't be read; value: the number of the line."""


class InvalidCommand(TreeError):
    """A command was expected; value: what was passed."""


class UnknownNode(TreeError):
    """A node of the net or of the books was expected; value: what was passed."""


class TooMany(TreeError):
    """There is too much to go through; value: how many there are."""


class Nothing(TreeError):
    """There is nothing to take back; value: None."""


class NoBlock(TreeError):
    """No block is open; value: None."""


class NotReady(TreeError):
    """No forest is loaded; value: None."""
