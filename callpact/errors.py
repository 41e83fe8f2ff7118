"""What this package refuses."""


class PactError(ValueError):
    """Any refusal."""


class BadProgram(PactError):
    """What was handed in is no program: the word tells in what, the numbers where."""

    def __init__(self, word, number, row):
        super().__init__(f"no program: {word} {number}, row {row}")
        self.word = word
        self.number = number
        self.row = row


class BadNumber(PactError):
    """There is no routine of that number."""


class TooMany(PactError):
    """There is more to look at than is promised."""


class NotLet(PactError):
    """A routine is not let by."""


class BadStates(PactError):
    """A list holds something else than states of the routine's rows."""


class BadGiven(PactError):
    """What is given is not what the house of routine 0 is handed."""


class BadFuel(PactError):
    """The fuel is none."""


class BadNoise(PactError):
    """The noise is none."""


class BadSaves(PactError):
    """A list is not one of saves that can be put in."""


class BadText(PactError):
    """A text is no written program: the line tells where."""

    def __init__(self, line):
        super().__init__(f"no written program: line {line}")
        self.line = line
