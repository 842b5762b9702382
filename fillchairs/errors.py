"""The errors of the package, all of them directly under ChairError."""


class ChairError(ValueError):
    """Any error of the package."""


class BadSetup(ChairError):
    """No setup stands where one should."""


class BadRule(ChairError):
    """No rule stands where one should."""


class BadRow(ChairError):
    """No row stands where one should; place tells the first entry that is wrong."""

    def __init__(self, place):
        super().__init__(f"not a row, place {place}")
        self.place = place


class BadState(ChairError):
    """No state stands where one should."""


class BadStanding(ChairError):
    """No standing stands where one should."""


class BadWalk(ChairError):
    """No walk stands where one should; place tells the first entry that is no move."""

    def __init__(self, place):
        super().__init__(f"not a walk, place {place}")
        self.place = place


class BadFraction(ChairError):
    """Two objects stand where a fraction should."""


class BadWho(ChairError):
    """Neither a group nor a single is named."""


class BadNumber(ChairError):
    """No such number stands where one should."""


class TooMany(ChairError):
    """More would have to be looked through than is promised."""


class BadSeen(ChairError):
    """What should tell of seen chairs does not."""


class BadComers(ChairError):
    """No comers of a beat stand where they should."""


class NothingToUndo(ChairError):
    """Nothing is left that could be taken back."""


class BadText(ChairError):
    """A text does not read; place tells the first word that is wrong."""

    def __init__(self, place):
        super().__init__(f"not a text of the form, place {place}")
        self.place = place


class BadCommand(ChairError):
    """The desk knows no such command."""
