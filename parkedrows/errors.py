"""The errors that this package raises; none of them is a subclass of another one."""


class ParkError(ValueError):
    """The base class of all errors of this package."""


class InvalidRow(ParkError):
    """The value is no parked row."""


class InvalidTree(ParkError):
    """The value is no tree."""


class InvalidCars(ParkError):
    """The value is no number of cars."""


class InvalidNumber(ParkError):
    """The value is no number of the told range."""


class InvalidRing(ParkError):
    """The value is no ring row."""


class InvalidCorner(ParkError):
    """The value is no corner that may stand there."""


class InvalidCode(ParkError):
    """The value is no code of a tree."""


class InvalidPath(ParkError):
    """The value is no path."""


class InvalidSteps(ParkError):
    """The value is no steps of a path."""


class InvalidLabelled(ParkError):
    """The value is no labelled path."""


class InvalidCar(ParkError):
    """The value is no car that may stand there."""


class InvalidSweep(ParkError):
    """The value is no sweep of a labelled path."""


class InvalidLoad(ParkError):
    """The value is no load of the told kind."""


class InvalidWeb(ParkError):
    """The value is no web."""


class InvalidField(ParkError):
    """The value is no field."""


class InvalidPoint(ParkError):
    """The value is no point that is on no plane."""


class InvalidPlane(ParkError):
    """The value is no plane that may stand there."""


class InvalidParting(ParkError):
    """The value is no parting."""


class InvalidPoints(ParkError):
    """The value is no number of points."""


class InvalidTurn(ParkError):
    """The value is no turn of a parting."""


class InvalidChain(ParkError):
    """The value is no chain."""


class InvalidExchanges(ParkError):
    """The value is no row of exchanges."""


class InvalidExchange(ParkError):
    """The value is no exchange."""


class InvalidPlaces(ParkError):
    """The value is no number of places."""


class InvalidHomes(ParkError):
    """The value is no homes for so many places."""


class InvalidTable(ParkError):
    """The value is no table of the told kind."""


class InvalidThing(ParkError):
    """The value is no thing that may stand there."""


class InvalidPlace(ParkError):
    """The value is no place."""


class InvalidFilled(ParkError):
    """The value is no places that can be filled."""


class InvalidLots(ParkError):
    """The value is no lots of homes."""


class InvalidWishes(ParkError):
    """The value is no wishes to begin with."""


class InvalidCounts(ParkError):
    """The value is no counts of wishes."""


class InvalidBounds(ParkError):
    """The value is no bounds."""


class InvalidMesh(ParkError):
    """The value is no mesh."""


class InvalidSearch(ParkError):
    """The value is no word of a search."""


class InvalidTie(ParkError):
    """The value is no tie that may stand there."""


class InvalidTies(ParkError):
    """The value is no outer ties of a tree."""


class InvalidClues(ParkError):
    """The value is no clues."""


class InvalidSpots(ParkError):
    """The value is no spots of cars."""


class InvalidState(ParkError):
    """The value is no state."""


class InvalidStep(ParkError):
    """The value is no step."""


class InvalidScript(ParkError):
    """The value is no script."""


class InvalidMarks(ParkError):
    """The value is no marks of so many cars."""


class InvalidText(ParkError):
    """The value is no text of the told kind."""


class Stuck(ParkError):
    """The step can't be done in this state."""


class NothingToUndo(ParkError):
    """No call is left that can be taken back."""


class NothingToRedo(ParkError):
    """No call is left that can be done again."""


class Unlike(ParkError):
    """Two values that belong together are not equally large."""


class TooMany(ParkError):
    """There are more than the limit, which is kept."""

    def __init__(self, limit):
        ParkError.__init__(self, f"more than {limit}")
        self.limit = limit
