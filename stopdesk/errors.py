"""The refusals."""


class DeskError(ValueError):
    """Any refusal."""


class BadProgram(DeskError):
    """What was handed in is no program: `at` the number of a deed or a part, or -1, and `why`."""

    def __init__(self, at, why):
        super().__init__(f"no program: {why} at {at}")
        self.at = at
        self.why = why


class BadCount(DeskError):
    """A number of deeds that can't be done."""


class BadPlace(DeskError):
    """A place at which no deed stands."""


class NoHand(DeskError):
    """A hand that there isn't."""


class BadWish(DeskError):
    """A stop's wish that is no part over the names of its place."""


class BadWay(DeskError):
    """A way to step that there isn't."""


class NoStop(DeskError):
    """A number of nothing that stands."""


class Full(DeskError):
    """There is no room for one more."""


class NoFrame(DeskError):
    """A fun that is not under way, a name or a cell that there isn't."""


class BadNumber(DeskError):
    """A number that no name and no cell can hold."""


class Ended(DeskError):
    """There is no deed left to go on with."""


class BadText(DeskError):
    """A text of no program: `place` the first word that can't stand there."""

    def __init__(self, place):
        super().__init__(f"no program's text: word {place}")
        self.place = place
