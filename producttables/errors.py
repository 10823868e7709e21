"""The errors of the package, each with what was wrong as its attributes."""


class MixError(ValueError):
    """A value that was passed is not what is wanted."""


class InvalidGrid(MixError):
    """The value is no grid."""

    def __init__(self, value):
        self.value = value


class InvalidLine(MixError):
    """The value is no line, or not one that is wanted here."""

    def __init__(self, value):
        self.value = value


class InvalidMany(MixError):
    """The value is no COUNT, or not within the bounds that are told."""

    def __init__(self, value):
        self.value = value


class InvalidMixture(MixError):
    """The value is no mixture of the table."""

    def __init__(self, value):
        self.value = value


class InvalidMixtures(MixError):
    """The value is no list of mixtures of the table."""

    def __init__(self, value):
        self.value = value


class InvalidNumber(MixError):
    """The value is no NUMBER, or not one that is wanted here."""

    def __init__(self, value):
        self.value = value


class InvalidPart(MixError):
    """The value is no part of the table."""

    def __init__(self, value):
        self.value = value


class InvalidRoom(MixError):
    """The value is no Room."""

    def __init__(self, value):
        self.value = value


class InvalidTable(MixError):
    """The value is no Table."""

    def __init__(self, value):
        self.value = value


class DividedByZero(MixError):
    """Something was to be divided by 0."""


class InvalidClaim(MixError):
    """The value is no claim."""

    def __init__(self, value):
        self.value = value


class InvalidCommand(MixError):
    """The value is no command."""

    def __init__(self, value):
        self.value = value


class InvalidLines(MixError):
    """What stands at the position is no deed; None for what is no list."""

    def __init__(self, position):
        self.position = position


class InvalidLots(MixError):
    """The value is not lots under meeting."""

    def __init__(self, value):
        self.value = value


class InvalidPaper(MixError):
    """The value is no paper of the claim."""

    def __init__(self, value):
        self.value = value


class InvalidPlace(MixError):
    """The value is no place."""

    def __init__(self, value):
        self.value = value


class InvalidRow(MixError):
    """The value is no row of the width of the grid."""

    def __init__(self, value):
        self.value = value


class InvalidRows(MixError):
    """The value is not the rows of a table."""

    def __init__(self, value):
        self.value = value


class InvalidSquares(MixError):
    """The value is not the squares of a room."""

    def __init__(self, value):
        self.value = value


class InvalidText(MixError):
    """The text is no written form from this line on."""

    def __init__(self, line):
        self.line = line


class InvalidThing(MixError):
    """The value is nothing that has a written form."""

    def __init__(self, value):
        self.value = value


class InvalidTurns(MixError):
    """The value is no group of turns."""

    def __init__(self, value):
        self.value = value


class InvalidWeb(MixError):
    """The value is not the arrows of a web."""

    def __init__(self, value):
        self.value = value


class NotGood(MixError):
    """For the things at these places brackets matter."""

    def __init__(self, places):
        self.places = places


class MissingError(LookupError):
    """Something that was asked for is not there."""


class UnknownLabel(MissingError):
    """No claim is noted under the label."""

    def __init__(self, value):
        self.value = value


class UnknownName(MissingError):
    """Nothing of the wanted kind is kept under the name."""

    def __init__(self, value):
        self.value = value


class StateError(RuntimeError):
    """What was passed cannot be reckoned with as it is."""


class CommandFailed(StateError):
    """The command at the position failed."""

    def __init__(self, position):
        self.position = position


class Dying(StateError):
    """Something of the table dies."""


class LabelTaken(StateError):
    """A claim is noted under the label."""

    def __init__(self, label):
        self.label = label


class NameTaken(StateError):
    """Something is kept under the name."""

    def __init__(self, name):
        self.name = name


class NoOne(StateError):
    """The table has no one."""


class NotClosed(StateError):
    """The part is not closed."""


class NotDying(StateError):
    """The mixture does not die."""


class NotGroup(StateError):
    """The things of the table are no group."""


class NotKept(StateError):
    """The grid is not kept."""


class NotLiving(StateError):
    """The part is no living part."""


class NotRoom(StateError):
    """The squares do not do what the things at these places make."""

    def __init__(self, places):
        self.places = places


class NotSide(StateError):
    """The part is no side part."""


class NotUndone(StateError):
    """The mixture is not undone by one."""


class NotWhole(StateError):
    """The part does not have as many mixtures as the table has things."""


class NothingLeft(StateError):
    """Nothing is left of which a table or a room could be made."""


class NothingToRedo(StateError):
    """No deed that was taken back can be done again."""


class NothingToUndo(StateError):
    """No deed can be taken back."""


class NoughtLine(StateError):
    """The line is nought."""


class UnlikeTables(StateError):
    """The tables are not equal."""


class UnlikeWidths(StateError):
    """The grids are not of one width."""


class LimitError(ArithmeticError):
    """An answer would be greater than the package lets."""


class TooMany(LimitError):
    """There would be more of something than the limit lets."""

    def __init__(self, what, limit):
        self.what = what
        self.limit = limit
