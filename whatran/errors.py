"""All refusals of the package."""

# The messages name no value: what is refused may be any object, also one
# of which no text can be made.


class RanError(ValueError):
    """Any refusal."""


class NoFraction(RanError):
    """What is no fraction, or makes none."""


class NoCondition(RanError):
    """What is no condition, or no text of one."""


class NoValues(RanError):
    """What is no tuple of the values of the places."""


class NoThrough(RanError):
    """What is no through of the condition."""


class NoNumber(RanError):
    """What is no number of the kind that is asked for."""


class NoProgram(RanError):
    """What is no text of a program; row is the first row that none has there."""

    def __init__(self, row):
        super().__init__("no program")
        self.row = row


class NoPoint(RanError):
    """What is no point, or no row, of the program."""


class NoWay(RanError):
    """What is no way of the program."""


class NoName(RanError):
    """What is no name."""


class NoInputs(RanError):
    """What is no list of inputs."""


class NoCounts(RanError):
    """What is no dict of counts."""


class NoEnds(RanError):
    """What is no list of ends."""


class NoMarks(RanError):
    """What is no list of marks."""


class NoWeights(RanError):
    """What is no dict of weights."""


class NotEnough(RanError):
    """Marks that are not enough; change is a change that none of them sees."""

    def __init__(self, change):
        super().__init__("the marks are not enough")
        self.change = change


class NoSums(RanError):
    """Numbers with which no counts keep the sums."""


class NotLed(RanError):
    """A run that does not go on in another edition; why tells why not."""

    def __init__(self, why):
        super().__init__("the run does not go on")
        self.why = why


class NoRecord(RanError):
    """What is no record of a run of the program."""


class NoEdition(RanError):
    """What is no edition of the report; name is what was asked for."""

    def __init__(self, name):
        super().__init__("no edition of this name")
        self.name = name


class NoRun(RanError):
    """What is no run of the edition; name is what was asked for."""

    def __init__(self, name):
        super().__init__("no run of this name")
        self.name = name


class Clash(RanError):
    """Two unlike things of one name; name is that name."""

    def __init__(self, name):
        super().__init__("another of this name")
        self.name = name


class NoStand(RanError):
    """What is no stand of the program."""


class NoText(RanError):
    """What is no text of the kind that is read."""


class NoRow(RanError):
    """What is no row that the desk knows."""
