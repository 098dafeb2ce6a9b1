"""The errors that the program raises, one class for each kind of failure."""


class TensorError(ValueError):
    """The base of all errors of the program."""


class ZeroDenominator(TensorError):
    """A fraction would have the denominator 0."""


class TextError(TensorError):
    """A text is not one that the program writes."""


class RankError(TensorError):
    """A shape has too many axes."""


class AxisError(TensorError):
    """Axes are missing, doubled or do not go together."""


class RangeError(TensorError):
    """A number is out of its range."""


class TooLarge(TensorError):
    """Something has too many parts."""


class KindError(TensorError):
    """A node has a kind that is not in the table."""


class FormError(TensorError):
    """Something is not of the form that it must have."""


class TooWide(TensorError):
    """A number, or the end of an interval, is too far from 0."""


class FeedError(TensorError):
    """What is handed in does not have as many numbers as needed."""


class RuleError(TensorError):
    """A rule cannot be applied."""


class UnsetWord(TensorError):
    """A word is read that is not set."""


class KeptError(TensorError):
    """The nodes to keep are not the ones that can be kept."""


class ChangeError(TensorError):
    """A change of a loop program cannot be made."""


class PlaceError(TensorError):
    """The places of buffers are not right."""


class NoRoom(TensorError):
    """There is not enough memory."""


class MachineError(TensorError):
    """A machine is not within the limits."""


class Trap(TensorError):
    """An instruction traps."""


class AuditError(TensorError):
    """The base of the errors that an audit of code finds."""


class Outside(AuditError):
    """A word is outside of its memory."""


class Racing(AuditError):
    """A word is touched while a transfer of it may be going on."""


class NeverSet(AuditError):
    """A word is read that was never set."""


class MayOverflow(AuditError):
    """A result may not fit the machine."""


class Unsettled(AuditError):
    """A slot holds no known number where one is needed."""


class TableError(TensorError):
    """A table of scales is not right."""


class JournalError(TensorError):
    """A journal is not one that a trainer wrote."""


class RoughError(TensorError):
    """A node has no slopes along a line."""


class DeviceError(TensorError):
    """Devices are not right."""


class PieceError(TensorError):
    """Pieces of a graph, or their assignment, are not right."""


class ProgramError(TensorError):
    """The programs of devices are not right."""


class MarkError(TensorError):
    """A mark has a wrong name or is not there."""
