"""The errors of this package."""


class OrderError(ValueError):
    """The base class of all errors of this package."""


class InvalidOrder(OrderError):
    """No order of 1 to 30 things."""


class InvalidMany(OrderError):
    """No number of things, or of wires."""


class InvalidPlace(OrderError):
    """No place."""


class InvalidThing(OrderError):
    """No thing, wire or height."""


class InvalidExchange(OrderError):
    """No exchange of so many things."""


class InvalidRow(OrderError):
    """No row of exchanges, or none of the kind that is asked for."""


class InvalidPairs(OrderError):
    """No overtakings of the kind that is asked for."""


class InvalidCode(OrderError):
    """No code of an order."""


class InvalidNumber(OrderError):
    """No number, or one out of bounds."""


class InvalidRings(OrderError):
    """No rings of an order."""


class InvalidMove(OrderError):
    """No move that can be done on the row."""


class InvalidDrawing(OrderError):
    """No drawing, or none of the kind that is asked for."""


class InvalidCrossing(OrderError):
    """No crossing of the drawing."""


class InvalidField(OrderError):
    """No crossing by which a field of the drawing is told."""


class InvalidTriples(OrderError):
    """No lot of triples of the order."""


class InvalidPath(OrderError):
    """No path of the drawing."""


class InvalidRoad(OrderError):
    """No road of an order."""


class InvalidLaying(OrderError):
    """No laying of the order."""


class InvalidSquare(OrderError):
    """No square of the laying."""


class InvalidSix(OrderError):
    """No six of the laying."""


class InvalidShape(OrderError):
    """No shape."""


class InvalidCell(OrderError):
    """No cell of the shape."""


class InvalidTable(OrderError):
    """No table of the kind that is asked for."""


class InvalidPipes(OrderError):
    """No pipes of so many things."""


class InvalidLadder(OrderError):
    """No ladder of the pipes."""


class InvalidSum(OrderError):
    """No sum of the kind that is asked for."""


class InvalidValues(OrderError):
    """No values for the variables."""


class InvalidClimb(OrderError):
    """No climb of the row."""


class NoFall(OrderError):
    """The order has no fall."""


class NotVexing(OrderError):
    """The order is not vexing."""


class InvalidNet(OrderError):
    """No net of the kind that is asked for."""


class InvalidMarks(OrderError):
    """No row of marks."""


class InvalidWord(OrderError):
    """No word for counts."""


class InvalidPattern(OrderError):
    """No pattern."""


class InvalidPatterns(OrderError):
    """No tuple of patterns."""


class InvalidPlaces(OrderError):
    """No places of falls."""


class InvalidShares(OrderError):
    """No shares of the row."""


class InvalidIndex(OrderError):
    """No index."""


class InvalidState(OrderError):
    """No state."""


class InvalidStep(OrderError):
    """No step."""


class InvalidScript(OrderError):
    """No script."""


class InvalidSpot(OrderError):
    """No spot."""


class InvalidFacts(OrderError):
    """No row facts."""


class InvalidText(OrderError):
    """No text of what is to be read."""


class NoMove(OrderError):
    """The move cannot be made there."""


class NoRise(OrderError):
    """The exchange would make one overtaking less."""


class Held(OrderError):
    """The last exchange cannot be taken away."""


class NothingToUndo(OrderError):
    """No call can be taken back."""


class NothingToRedo(OrderError):
    """No call can be done again."""


class Unlike(OrderError):
    """Two values do not go together."""


class TooMany(OrderError):
    """There are more than a function takes; limit tells how many these are."""

    def __init__(self, limit):
        super().__init__(f"more than {limit}")
        self.limit = limit
