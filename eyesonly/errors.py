"""The errors of the package: EyesError and its direct subclasses."""


class EyesError(Exception):
    """The base class of all errors of the package."""


class BadTree(EyesError):
    """A value is not a tree."""

    def __init__(self, thing):
        self.thing = thing


class BadScript(EyesError):
    """A value is not a script."""

    def __init__(self, thing):
        self.thing = thing


class BadProgram(EyesError):
    """A value is not a program."""

    def __init__(self, thing):
        self.thing = thing


class BadCode(EyesError):
    """A value is not code that is accepted."""

    def __init__(self, thing):
        self.thing = thing


class BadPlace(EyesError):
    """A value is not a place of the tree."""

    def __init__(self, thing):
        self.thing = thing


class BadWay(EyesError):
    """A value is not one of the four ways."""

    def __init__(self, thing):
        self.thing = thing


class BadText(EyesError):
    """A value is not a text: at says how far it could be one, -1 if it is no string."""

    def __init__(self, at):
        self.at = at


class BadCall(EyesError):
    """A value is not a call of the program for the tree."""

    def __init__(self, thing):
        self.thing = thing


class BadPicks(EyesError):
    """A value is not a string of the letters l and r."""

    def __init__(self, thing):
        self.thing = thing


class BadNumber(EyesError):
    """A value is not a number of the kind that is asked for."""

    def __init__(self, thing):
        self.thing = thing


class Choosing(EyesError):
    """A program has choice where it must not; the thing is the name of its first such function."""

    def __init__(self, thing):
        self.thing = thing


class BadValue(EyesError):
    """A value is not a value of the kind of the function."""

    def __init__(self, thing):
        self.thing = thing


class BadPoly(EyesError):
    """A value is not a polynomial."""

    def __init__(self, thing):
        self.thing = thing


class BadShape(EyesError):
    """A value is not code."""

    def __init__(self, thing):
        self.thing = thing


class BadRow(EyesError):
    """A value is not a row of code."""

    def __init__(self, thing):
        self.thing = thing


class BadPlaces(EyesError):
    """A value is not a tuple of the right number of places."""

    def __init__(self, thing):
        self.thing = thing


class NotLast(EyesError):
    """A program is not last; the thing is the certificate of this."""

    def __init__(self, thing):
        self.thing = thing


class BadMachine(EyesError):
    """A value is not a machine of the kind that is asked for."""

    def __init__(self, thing):
        self.thing = thing


class BadName(EyesError):
    """A value is not the name that is asked for."""

    def __init__(self, thing):
        self.thing = thing


class BadWord(EyesError):
    """A value is not the word that is asked for."""

    def __init__(self, thing):
        self.thing = thing


class BadTags(EyesError):
    """A value is not the tags that are asked for."""

    def __init__(self, thing):
        self.thing = thing


class BadRules(EyesError):
    """A value is not the rules that are asked for."""

    def __init__(self, thing):
        self.thing = thing


class BadTies(EyesError):
    """A value is not the ties that are asked for."""

    def __init__(self, thing):
        self.thing = thing


class BadStep(EyesError):
    """A value is not the step that is asked for."""

    def __init__(self, thing):
        self.thing = thing
