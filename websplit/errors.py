"""The refusals, each straight under an error of Python's own."""


class NoText(ValueError):
    """A text that writes no thing, or no web: `row` is its first wrong row."""

    def __init__(self, row):
        self.row = row


class NoBatch(ValueError):
    """A batch that can't be: `at` is the place of the first such deed."""

    def __init__(self, at, why):
        self.at = at
        self.why = why


class NoQuestion(ValueError):
    """No question: `at` is the place of the first wrong row, or None."""

    def __init__(self, at):
        self.at = at


class BadName(ValueError):
    """What was asked by is no name."""

    def __init__(self, asked):
        self.asked = asked


class NoRow(ValueError):
    """No row of the desk's."""

    def __init__(self, asked):
        self.asked = asked


class NoKnot(KeyError):
    """No knot that is there."""

    def __init__(self, asked):
        self.asked = asked


class NoTie(KeyError):
    """No tie that is there."""

    def __init__(self, asked):
        self.asked = asked


class NoName(KeyError):
    """Nothing is kept by this name."""

    def __init__(self, name):
        self.name = name


class Known(KeyError):
    """Something is kept by this name already."""

    def __init__(self, name):
        self.name = name


class NoMoment(IndexError):
    """No moment that is there yet."""

    def __init__(self, asked):
        self.asked = asked


class NoPlace(IndexError):
    """No slot, or no house."""

    def __init__(self, asked):
        self.asked = asked


class Gone(LookupError):
    """A moment that was let go: `begin` is the first that is kept."""

    def __init__(self, begin):
        self.begin = begin


class NoTuple(LookupError):
    """No tuple of the answer."""

    def __init__(self, asked):
        self.asked = asked


class Fell(RuntimeError):
    """The disk has fallen at this step."""

    def __init__(self, step):
        self.step = step


class Busy(RuntimeError):
    """A run goes on."""


class Moving(RuntimeError):
    """This slot moves still."""

    def __init__(self, slot):
        self.slot = slot


class NoMove(RuntimeError):
    """No move goes on."""


class NoPlan(ArithmeticError):
    """No order of the rows in which they can be searched."""


class Home(ArithmeticError):
    """The slot stands at the house of this number already."""

    def __init__(self, number):
        self.number = number


class TooLong(OverflowError):
    """A run that hasn't ended after so many rounds."""

    def __init__(self, most):
        self.most = most
