"""The errors that the program raises: one class for each kind of failure."""


class TensorError(ValueError):
    """The base of all errors of this program."""


class ZeroDenominator(TensorError):
    """A fraction has the denominator 0, or is divided by zero."""


class TextError(TensorError):
    """A text is not one that the program writes."""


class RankError(TensorError):
    """A shape has too many axes."""


class AxisError(TensorError):
    """An axis is missing, stands twice or has another size than it must have."""


class RangeError(TensorError):
    """A number is outside of its range."""


class TooLarge(TensorError):
    """There is too much of something: elements, nodes, work, statements or steps."""


class KindError(TensorError):
    """A node has a kind that is not known or not allowed."""


class FormError(TensorError):
    """Something does not have the form that it must have."""


class TooWide(TensorError):
    """An interval reaches too far."""


class FeedError(TensorError):
    """There are not as many feeds, or words in one of them, as there must be."""


class RuleError(TensorError):
    """A rule of rewriting is unknown or cannot be applied."""


class UnsetWord(TensorError):
    """A word is read that is not set."""


class KeptError(TensorError):
    """The kept nodes are not those that can or must be kept."""


class ChangeError(TensorError):
    """A change of a loop program cannot be made."""


class PlaceError(TensorError):
    """Addresses are missing, are outside of the memory or collide."""


class NoRoom(TensorError):
    """A memory is too small."""


class MachineError(TensorError):
    """A machine is not one that can be built for."""


class Trap(TensorError):
    """The device has stopped at an instruction."""


class AuditError(TensorError):
    """The audit does not accept a code."""


class TableError(TensorError):
    """A table of scales does not fit its model."""


class JournalError(TensorError):
    """A journal is not one that the trainer wrote."""


class Outside(AuditError):
    """A word is outside of its memory."""


class Racing(AuditError):
    """A word is touched while a transfer with it is in flight."""


class NeverSet(AuditError):
    """An instruction reads a word that is not set."""


class MayOverflow(AuditError):
    """A result may not fit the machine."""


class Unsettled(AuditError):
    """An address or a condition depends on the inputs."""
