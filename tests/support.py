"""What the tests share: values of all kinds, a check of errors, a runner of the document's examples."""

import unittest

from filledrow import errors
from filledrow.alike import Apart
from filledrow.bars import Bars, Example
from filledrow.best import Optimum
from filledrow.bysides import BySides, StuckSides
from filledrow.desk import Desk
from filledrow.fillings import Filling
from filledrow.foe import Foe, Game
from filledrow.follows import Fails, Follows
from filledrow.ledger import Ledger
from filledrow.nested import Crossing, Dearer, Nested, TwoWorths, Unnested
from filledrow.offers import Coming, Offers
from filledrow.orders import Order
from filledrow.peels import Found, Stuck
from filledrow.rules import By, Dearest, Listed, Narrowest, Served
from filledrow.seen import Asking, Seen
from filledrow.sides import Side
from filledrow.tables import Table

LONG = 10 ** 29 + 7
LETTERS = "abcdefgh"


def some_function():
    """A function, as one of the values that may be passed."""


PLAIN = [
    None, True, False, 0, 1, 2, -1, -7, 10 ** 39, "", "a", "x", "A", "a1", "none", "self", "abcdefghi", "a b", "-", "1",
    "a\nb", (), ("a",), ("a", "x"), ("a", "none"), ("self", "x"), ("a", "x", "b"), ("a", 1), (("a", "x"), None, None),
    (("a", "x"), ("a", "y"), None), [], ["a"], ["a", "x"], [("a", "x")], [["a"], {}], {}, {"a": 1}, {"a": {"x": 1}},
    {("a", "x"): 1}, {"a": [1, {"b": ()}]}, ([],), ("a", []), ([], "x"), (("a", "x"), [], None), some_function, len,
]
OBJECTS = [
    Table({"a": {"x": 1}}), Side(a=1), Filling({("a", "x"): 1}), Order(("a", "x")), Bars([("a", "x")]), Found(1),
    Stuck(()), Example(1, 2, 3, 4), errors.BadName(1), Follows(()), Fails(Order(("a", "x"))),
    Optimum(Filling({}), {}, {}), Apart(1, 2, 3, 4), Offers(Table({"a": {"x": 1}}), a=1), Coming("x", 1), Nested({}),
    Unnested(), TwoWorths("a", "x", "y"), Crossing(1, 2, 3, 4, 5), Dearer(1, 2, 3, 4), Narrowest(), Listed({"x": ["a"]}),
    By(some_function), Narrowest() | Dearest(), Served((), Side(), 0), Foe(Offers(Table({"a": {"x": 1, "y": 2}}))),
    Game(Side(), (), (), ()), Seen(Side(a=1), Side(x=1), Filling({("a", "x"): 1})), Asking(1, 2, 3, 4),
    BySides((), Order()), StuckSides(()), Ledger(Table({"a": {"x": 1}}), Order(("a", "x"))), Desk(),
]
ANY = PLAIN + OBJECTS

NO_NAMES = [value for value in ANY if value not in ("a", "x") or not isinstance(value, str)]
NO_AMOUNTS = [value for value in ANY if not (type(value) is int and value >= 0)]
NO_COUNTS = [value for value in ANY if not (type(value) is int and value >= 1)]
NO_PAIRS = [value for value in ANY if not (isinstance(value, tuple) and value == ("a", "x"))]
NO_ROWS = [value for value in ANY if not isinstance(value, (list, tuple))]
NO_DICTS = [value for value in ANY if not isinstance(value, dict)]
NO_STRINGS = [value for value in ANY if not isinstance(value, str)]


def others(kind):
    """All values that are not of a class."""
    return [value for value in ANY if not isinstance(value, kind)]


def can_be_key(value):
    """Whether a value can be a key of a dict."""
    try:
        hash(value)
    except TypeError:
        return False
    return True


def is_pair_like(value):
    """Whether a value of those above is a pair."""
    return isinstance(value, tuple) and value == ("a", "x")


def pairs_of(sources, uses):
    """All pairs of some letters."""
    return tuple((source, use) for source in sources for use in uses)


FOUR = pairs_of("ab", "xy")
SIX_BY_SIX = pairs_of("abcdef", "uvwxyz")
THIRTY_SEVEN = SIX_BY_SIX + (("g", "u"),)


class Case(unittest.TestCase):
    """A test case that knows the errors of the package."""

    def told(self, expected, call, *arguments, **named):
        """Checks that a call raises just this error, with just these attributes."""
        with self.assertRaises(errors.FillError) as caught:
            call(*arguments, **named)
        self.assertIs(type(caught.exception), type(expected), (caught.exception, arguments, named))
        mine, theirs = vars(caught.exception), vars(expected)
        self.assertEqual(list(mine), list(theirs))
        for name in mine:
            self.assertIs(type(mine[name]), type(theirs[name]), (mine, theirs))
            self.assertEqual(mine[name], theirs[name])

    def is_paper(self, kind, fields, truth):
        """Checks that a class keeps any values in attributes, by position and by name, and compares by them."""
        plain = [f"value {k}" for k in range(len(fields))]
        for at, field in enumerate(fields):
            for value in ANY:
                told = plain[:at] + [value] + plain[at + 1:]
                paper, other = kind(*told), kind(**dict(zip(fields, told)))
                self.assertEqual(list(vars(paper)), fields)
                self.assertIs(getattr(paper, field), value)
                self.assertEqual(paper, other)
                self.assertIs(paper == other, True)
                self.assertIs(paper == kind(*plain), False)
                self.assertIs(bool(paper), truth)
                self.assertIs(paper == value, False)
            self.assertEqual(kind(*plain[:at], 1, *plain[at + 1:]), kind(*plain[:at], True, *plain[at + 1:]))
            self.assertNotEqual(kind(*plain[:at], [1], *plain[at + 1:]), kind(*plain[:at], (1,), *plain[at + 1:]))
        for other in PAPERS:
            if other != kind:
                self.assertIs(kind(*plain) == other(*(plain * 5)[:PAPERS[other]]), False)


PAPERS = {Found: 1, Stuck: 1, Example: 4, Follows: 1, Fails: 1, Optimum: 3, Apart: 4, Nested: 1, TwoWorths: 3,
          Crossing: 5, Dearer: 4, Served: 3, Game: 4, Asking: 4, BySides: 2, StuckSides: 1}


def run_examples(case, text, space):
    """Runs lines behind `>>>`, and compares what they give with the line behind them, if there is one."""
    rows = text.strip().split("\n")
    for at, row in enumerate(rows):
        if not row.startswith(">>> "):
            continue
        line = row[4:]
        wanted = rows[at + 1] if at + 1 < len(rows) and not rows[at + 1].startswith(">>> ") else None
        if wanted is None:
            exec(line, space)
        elif wanted.startswith("raises "):
            with case.assertRaises(errors.FillError) as caught:
                eval(line, space)
            case.assertEqual(repr(caught.exception), wanted[len("raises "):], line)
        else:
            case.assertEqual(repr(eval(line, space)), wanted, line)
