"""The errors of the package."""


class SurePlaceError(ValueError):
    """The base of all errors of the package."""

    def __init__(self, why=""):
        super().__init__(str(why))


class InvalidSetting(SurePlaceError):
    """There is no setting with these numbers."""


class InvalidReading(SurePlaceError):
    """There is no such reading, or it does not fit."""


class InvalidQuestion(SurePlaceError):
    """There is no such question, or it does not fit."""


class InvalidPlan(SurePlaceError):
    """There is no such plan, or a moment of it is out of the question's span."""


class InvalidAddress(SurePlaceError):
    """The text is not the address of a cell."""


class UnknownQuestion(SurePlaceError):
    """No question with this number stands."""


class UnknownMoment(SurePlaceError):
    """Nothing is kept for this moment."""


class NotPinned(SurePlaceError):
    """The moment is not pinned."""


class InvalidText(SurePlaceError):
    """The text cannot be continued at the word with this place."""

    def __init__(self, place):
        super().__init__(f"the text goes wrong at word {place}")
        self.place = place


class InvalidLine(SurePlaceError):
    """The line of a script cannot be continued at the word with this place."""

    def __init__(self, line, place):
        super().__init__(f"line {line} goes wrong at word {place}")
        self.line = line
        self.place = place
