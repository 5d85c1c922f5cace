"""The errors of the package, by what they derive from."""


class FillError(ValueError):
    """A value that was passed is not what is asked for."""


class InvalidClass(FillError):
    """A value is no class of the table."""

    def __init__(self, value):
        self.value = value


class InvalidFilling(FillError):
    """A value is no filling, or one that does not reach all names."""

    def __init__(self, value):
        self.value = value


class InvalidGuesser(FillError):
    """A value is no Guesser."""

    def __init__(self, value):
        self.value = value


class InvalidLetters(FillError):
    """A value is no number of letters."""

    def __init__(self, value):
        self.value = value


class InvalidLot(FillError):
    """A value is no lot of classes of the table."""

    def __init__(self, value):
        self.value = value


class InvalidMachine(FillError):
    """A value is no Machine."""

    def __init__(self, value):
        self.value = value


class InvalidMany(FillError):
    """A value does not tell how many there are."""

    def __init__(self, value):
        self.value = value


class InvalidPattern(FillError):
    """A value is no pattern of these letters."""

    def __init__(self, value):
        self.value = value


class InvalidPosition(FillError):
    """A value is no position."""

    def __init__(self, value):
        self.value = value


class InvalidSayings(FillError):
    """A value is no sayings of the table."""

    def __init__(self, value):
        self.value = value


class InvalidTable(FillError):
    """A value is no Table."""

    def __init__(self, value):
        self.value = value


class InvalidViews(FillError):
    """A value is no views."""

    def __init__(self, value):
        self.value = value


class InvalidWord(FillError):
    """A value is no word of these letters."""

    def __init__(self, value):
        self.value = value


class InvalidBegins(FillError):
    """A value is no list of unlike states to begin at."""

    def __init__(self, value):
        self.value = value


class InvalidClaim(FillError):
    """A value is no claim."""

    def __init__(self, value):
        self.value = value


class InvalidCommand(FillError):
    """A value is no command."""

    def __init__(self, value):
        self.value = value


class InvalidDeeds(FillError):
    """At the position stands no deed; None if there is no list."""

    def __init__(self, position):
        self.position = position


class InvalidEnds(FillError):
    """A value is no list of unlike states to end at."""

    def __init__(self, value):
        self.value = value


class InvalidLeast(FillError):
    """A value does not tell the least ones."""

    def __init__(self, value):
        self.value = value


class InvalidLength(FillError):
    """A value is no length."""

    def __init__(self, value):
        self.value = value


class InvalidMachines(FillError):
    """A value is no list of Machines for a table."""

    def __init__(self, value):
        self.value = value


class InvalidMost(FillError):
    """A value does not tell the most ones."""

    def __init__(self, value):
        self.value = value


class InvalidName(FillError):
    """A value is no name."""

    def __init__(self, value):
        self.value = value


class InvalidPair(FillError):
    """A value is no place of a pair."""

    def __init__(self, value):
        self.value = value


class InvalidPaper(FillError):
    """A value is no paper of the claim."""

    def __init__(self, value):
        self.value = value


class InvalidPlaces(FillError):
    """A value is no list of unlike places of pairs."""

    def __init__(self, value):
        self.value = value


class InvalidReading(FillError):
    """A value is no reading."""

    def __init__(self, value):
        self.value = value


class InvalidState(FillError):
    """A value is no state."""

    def __init__(self, value):
        self.value = value


class InvalidSteps(FillError):
    """A value does not tell the next states."""

    def __init__(self, value):
        self.value = value


class InvalidText(FillError):
    """A text is wrong at the position; None if it is no text that tells the thing."""

    def __init__(self, position):
        self.position = position


class InvalidWords(FillError):
    """A value is no list of words."""

    def __init__(self, value):
        self.value = value


class MissingError(LookupError):
    """Something that was asked for is not there."""


class UnknownLabel(MissingError):
    """There is no such label."""

    def __init__(self, value):
        self.value = value


class UnknownName(MissingError):
    """Nothing is kept under the name."""

    def __init__(self, value):
        self.value = value


class StateError(RuntimeError):
    """Things do not stand as the call needs them."""


class UnlikeLetters(StateError):
    """What should have as many letters has not."""

    def __init__(self):
        pass


class CommandFailed(StateError):
    """The command at the position failed."""

    def __init__(self, position):
        self.position = position


class LabelTaken(StateError):
    """There is such a label already."""

    def __init__(self, label):
        self.label = label


class NameTaken(StateError):
    """Something is kept under the name already."""

    def __init__(self, name):
        self.name = name


class NoneThere(StateError):
    """There is none of what was asked for."""

    def __init__(self):
        pass


class NotOfUse(StateError):
    """Not all states are of use."""

    def __init__(self):
        pass


class NotTold(StateError):
    """It does not tell just what the machine lets."""

    def __init__(self):
        pass


class NothingToRedo(StateError):
    """No deed was taken back that could be done again."""

    def __init__(self):
        pass


class NothingToUndo(StateError):
    """There is no deed to take back."""

    def __init__(self):
        pass


class LimitError(ArithmeticError):
    """Something is larger than the package goes."""


class TooMany(LimitError):
    """There are more of these than the limit."""

    def __init__(self, what, limit):
        self.what = what
        self.limit = limit
