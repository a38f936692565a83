"""The errors of the package."""


class ShapeError(ValueError):
    """The base class of all errors."""


class VersionReleased(ShapeError):
    """A version was let go."""


class TooManyVersions(ShapeError):
    """A store would have too many live versions."""


class TooManyTags(ShapeError):
    """A store has too many tags for a new one."""


class StoreFull(ShapeError):
    """A store would hold more nodes than its capacity."""


class QuotaExceeded(ShapeError):
    """More nodes would be created than a quota allows."""


class DifferentStores(ShapeError):
    """A version does not belong to the store."""


class WrongKind(ShapeError):
    """Versions do not have the kinds that a call needs."""


class UnknownOperation(ShapeError):
    """A kind does not have an operation of this word."""


class QueueEmpty(ShapeError):
    """A queue has no first item."""


class EmptyInterval(ShapeError):
    """An interval contains no integers."""


class IntervalOutOfRange(ShapeError):
    """An interval of a result would begin or end too far away."""


class ChangesDoNotFollow(ShapeError):
    """Changes cannot be composed."""


class DeltaTooLarge(ShapeError):
    """Finding a delta would take too long."""


class UnknownBaseNodes(ShapeError):
    """A pack was made with other bases."""


class NotCanonical(ShapeError):
    """A pack is not the pack of its parts."""


class LedgerFull(ShapeError):
    """The versions of a ledger would have too many nodes."""


class IndexOutOfRange(ShapeError):
    """An index is too great."""

    def __init__(self, place):
        ShapeError.__init__(self, f"no index {place}")
        self.place = place


class InvalidInstruction(ShapeError):
    """An instruction of a recipe is not valid."""

    def __init__(self, place):
        ShapeError.__init__(self, f"instruction {place} is not valid")
        self.place = place


class RecipeTooLarge(ShapeError):
    """The results of a recipe are too large together."""

    def __init__(self, place):
        ShapeError.__init__(self, f"the results up to instruction {place} are too large")
        self.place = place


class InvalidPiece(ShapeError):
    """A piece of a delta is not valid."""

    def __init__(self, place):
        ShapeError.__init__(self, f"piece {place} is not valid")
        self.place = place


class ChangeDoesNotApply(ShapeError):
    """A change does not apply to a map."""

    def __init__(self, place):
        ShapeError.__init__(self, f"change {place} does not apply")
        self.place = place


class InvalidNode(ShapeError):
    """An entry of a pack refers to a node that does not come before it."""

    def __init__(self, place):
        ShapeError.__init__(self, f"entry {place} refers to a later node")
        self.place = place


class InvalidRoot(ShapeError):
    """A root of a pack refers to a node that does not exist."""

    def __init__(self, place):
        ShapeError.__init__(self, f"root {place} does not exist")
        self.place = place


class InvalidContents(ShapeError):
    """Contents are not valid for their kind."""

    def __init__(self, place):
        ShapeError.__init__(self, f"the contents at {place} are not valid for their kind")
        self.place = place


class InvalidNumber(ShapeError):
    """Integers are not those of a pack."""

    def __init__(self, place):
        ShapeError.__init__(self, f"no pack is written so from integer {place} on")
        self.place = place


class UnknownVersion(ShapeError):
    """No version has the number."""

    def __init__(self, place):
        ShapeError.__init__(self, f"no version {place}")
        self.place = place


class InvalidRecord(ShapeError):
    """Integers are not those of a record."""

    def __init__(self, place):
        ShapeError.__init__(self, f"no ledger has the line at integer {place}")
        self.place = place


class TooManyElements(ShapeError):
    """Contents would have too many elements."""

    def __init__(self, count):
        ShapeError.__init__(self, f"{count} elements are too many")
        self.count = count


class PackTooLarge(ShapeError):
    """A pack would have too many entries."""

    def __init__(self, count):
        ShapeError.__init__(self, f"{count} entries are too many")
        self.count = count


class UnknownTag(ShapeError):
    """A store has no tag of the name."""

    def __init__(self, name):
        ShapeError.__init__(self, f"no tag {name}")
        self.name = name
