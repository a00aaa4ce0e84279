"""All errors of the package. Each keeps its fields as attributes, any value as it is."""


class FigureError(ValueError):
    """The base of all errors of this package."""


class BadValue(FigureError):
    """An argument, or a value in a list, is not as described."""

    def __init__(self, value):
        self.value = value


class TooFine(FigureError):
    """A worth has not the scale that was asked for; `scale` is its own."""

    def __init__(self, scale):
        self.scale = scale


class NoFigures(FigureError):
    """A shape without whole figures and without places."""

    def __init__(self):
        pass


class BadStep(FigureError):
    """A row is no step of a formula, or a value is no number of a step."""

    def __init__(self, number):
        self.number = number


class WideColumn(FigureError):
    """A column is wider than the cap."""

    def __init__(self, name):
        self.name = name


class TooWide(FigureError):
    """A constant or a cast is wider than the cap."""

    def __init__(self, step):
        self.step = step


class NoColumn(FigureError):
    """There is no column of this name where one is needed."""

    def __init__(self, name):
        self.name = name


class BadWorths(FigureError):
    """There is no worth for the column of this name that it holds."""

    def __init__(self, name):
        self.name = name


class NotOnce(FigureError):
    """A column does not stand in exactly one step, or stands in a divisor."""

    def __init__(self, name):
        self.name = name


class NoDivisor(FigureError):
    """A division by 0."""

    def __init__(self):
        pass


class Overflow(FigureError):
    """The rounded result `worth` of a step does not fit its shape."""

    def __init__(self, step, worth):
        self.step = step
        self.worth = worth


class NotPlain(FigureError):
    """A step is not as a plain formula has it."""

    def __init__(self, step):
        self.step = step


class Divides(FigureError):
    """A step is a quotient whose exact results need not be worths."""

    def __init__(self, step):
        self.step = step


class NotSteady(FigureError):
    """A step is a quotient, or a round that stands last."""

    def __init__(self, step):
        self.step = step


class NotASum(FigureError):
    """A step is no product with a sum or a difference as one side."""

    def __init__(self, step):
        self.step = step


class NotLinear(FigureError):
    """A step is not linear."""

    def __init__(self, step):
        self.step = step


class CanOver(FigureError):
    """A step is over for some worths, which are told."""

    def __init__(self, step, worths):
        self.step = step
        self.worths = worths


class ColumnsDiffer(FigureError):
    """The column of this name is not the same in both."""

    def __init__(self, name):
        self.name = name


class BadEntry(FigureError):
    """The value at this index is no entry."""

    def __init__(self, index):
        self.index = index


class Gaps(FigureError):
    """By this way totals may be missing between the least and the greatest one."""

    def __init__(self, way):
        self.way = way


class BadColumn(FigureError):
    """A value is no column."""

    def __init__(self, column):
        self.column = column


class BadText(FigureError):
    """A value is no string, or one that is too long or too deep to be read."""

    def __init__(self, value):
        self.value = value


class NotAFormula(FigureError):
    """A text is no text of a formula; `at` is its first wrong place."""

    def __init__(self, at):
        self.at = at


class Taken(FigureError):
    """A name stands for something of the other kind."""

    def __init__(self, name):
        self.name = name


class Unknown(FigureError):
    """Nothing has this name."""

    def __init__(self, name):
        self.name = name


class InUse(FigureError):
    """What has this name is still needed."""

    def __init__(self, name):
        self.name = name


class BadPromise(FigureError):
    """A value is no promise, or none that stands."""

    def __init__(self, told):
        self.told = told


class Broken(FigureError):
    """A promise does not hold; the worths show it."""

    def __init__(self, told, worths):
        self.told = told
        self.worths = worths
