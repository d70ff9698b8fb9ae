"""All refusals of Latewood."""


class WoodError(ValueError):
    """Any refusal."""


class NoPiece(WoodError):
    """What is handed in for a piece is none, or none of the run."""


class TooMany(WoodError):
    """There would be more than sixty pieces."""


class NoRun(WoodError):
    """The heap has no piece of the run."""


class NoWood(WoodError):
    """Pieces ask one another round."""


class NoHouse(WoodError):
    """The heap has no piece of the house, or a house is held against itself."""


class NoShifts(WoodError):
    """There are no shifts by which all ties are kept, or these are none."""


class NotRight(WoodError):
    """The run is not right."""


class NoMore(WoodError):
    """What is handed in for more time is none."""


class NotOne(WoodError):
    """The run has two tops or more."""


class NoGap(WoodError):
    """The number is no gap of the run."""


class NoDealing(WoodError):
    """No values fit what was told of them."""


class NoPlace(WoodError):
    """What is handed in for a place is none."""


class NotWhole(WoodError):
    """The run is not whole."""


class NoBack(WoodError):
    """There is not so much to go back behind."""


class NoRow(WoodError):
    """The row is none that a desk answers."""


class Clash(WoodError):
    """Two pieces clash: pair is a rising tuple of them."""

    def __init__(self, pair):
        super().__init__("two unlike pieces have one number of a run, or one count of a house")
        self.pair = pair


class NoText(WoodError):
    """A text writes nothing: at is the number of the first word that can't stand, or that lacks."""

    def __init__(self, at):
        super().__init__("the text has a word that cannot stand, or lacks one")
        self.at = at
