"""The errors of the package. Each keeps its arguments, any values, in attributes of their names."""


class FillError(ValueError):
    """The base of all errors of the package."""


class BadName(FillError):
    """What stands where a name is asked for is none."""

    def __init__(self, value):
        self.value = value


class BadAmount(FillError):
    """What stands where an amount, or a number to multiply or divide by, is asked for is none."""

    def __init__(self, value):
        self.value = value


class BadWorth(FillError):
    """What stands where a worth is asked for is none."""

    def __init__(self, value):
        self.value = value


class BadTable(FillError):
    """An argument that a table is made of, or that should be a table, is not of the kind asked for."""

    def __init__(self, part):
        self.part = part


class BadSide(FillError):
    """An argument that a side is made of, or that should be a side, is not of the kind asked for."""

    def __init__(self, part):
        self.part = part


class BadFilling(FillError):
    """An argument that a filling is made of, or that should be a filling, is not of the kind asked for."""

    def __init__(self, part):
        self.part = part


class BadPair(FillError):
    """What stands where a pair is asked for is none."""

    def __init__(self, value):
        self.value = value


class BadOrder(FillError):
    """An argument that an order is made of or asked with, or that should be an order, does not fit."""

    def __init__(self, part):
        self.part = part


class BadBars(FillError):
    """An argument that bars are made of or asked with, or that should be bars, does not fit."""

    def __init__(self, part):
        self.part = part


class BadSeen(FillError):
    """What was seen, or a part of it, does not fit."""

    def __init__(self, part):
        self.part = part


class BadOffer(FillError):
    """An argument that offers or comings are made of, or that should be such, does not fit."""

    def __init__(self, part):
        self.part = part


class BadRule(FillError):
    """An argument that a rule is made of, or that should be a rule, or what a rule takes, does not fit."""

    def __init__(self, part):
        self.part = part


class BadDay(FillError):
    """What stands where a day is asked for is none."""

    def __init__(self, value):
        self.value = value


class BadLedger(FillError):
    """An argument that a ledger is made of or led with does not fit."""

    def __init__(self, part):
        self.part = part


class BadText(FillError):
    """A text is not to be read: the row and the word that cannot stand."""

    def __init__(self, line, word):
        self.line = line
        self.word = word


class BadLine(FillError):
    """A line of a desk is not to be carried out: the word that cannot stand."""

    def __init__(self, word):
        self.word = word


class NoName(FillError):
    """A name that is not known there."""

    def __init__(self, name):
        self.name = name


class NoPair(FillError):
    """A pair that is not known there."""

    def __init__(self, pair):
        self.pair = pair


class Lacking(FillError):
    """A name, or a pair, that has too little."""

    def __init__(self, name):
        self.name = name


class TooMany(FillError):
    """More of something than may be: what it is, and how many may be at most."""

    def __init__(self, what, most):
        self.what = what
        self.most = most


class IsNested(FillError):
    """Offers are nested, so nobody can bring comings that beat every rule."""


class NoChange(FillError):
    """There is nothing to take back."""
