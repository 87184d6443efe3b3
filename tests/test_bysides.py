"""Orders by sources and by uses, against all orders of few pairs."""

import itertools
import random
import unittest

from filledrow.bars import Bars
from filledrow.bysides import BySides, StuckSides, find_by_sources, find_by_uses
from filledrow.errors import BadBars
from filledrow.orders import Order
from filledrow.peels import find_order
from filledrow.tables import Table
from tests.support import SIX_BY_SIX, Case, others, pairs_of
from tests.test_bars import all_bars

CROSS = Bars.best(Table({"a": {"x": 1, "y": 2}, "b": {"x": 2, "y": 1}}))
FINDERS = [(find_by_sources, 0), (find_by_uses, 1)]


def samples(seed, many):
    """Bars about few pairs by chance."""
    chance = random.Random(seed)
    for _ in range(many):
        pairs = chance.sample(pairs_of("abc", "xyz"), chance.randint(0, 5))
        bars = list(all_bars(pairs))
        yield Bars.of(pairs, chance.sample(bars, min(len(bars), chance.choice([0, 1, 2, 3, 5, 8]))))


def all_by_names(bars, end):
    """All orders that go by names and break no bar, each with its names."""
    for row in itertools.permutations(bars.pairs):
        names = [name for name, _ in itertools.groupby(pair[end] for pair in row)]
        if len(names) == len(set(names)) and bars.first_broken(Order(*row)) is None:
            yield tuple(names), row


def left_of(bars, end, name, left):
    """The pairs of a name that stay when its free pairs are taken off, those of other names being left."""
    left = list(left)
    while True:
        free = [pair for pair in left if pair[end] == name and not bars.holding(pair, left)]
        if not free:
            return [pair for pair in left if pair[end] == name], left
        left.remove(free[-1])


def stuck_names(bars, end):
    """The held of the names that stay when again and again one is taken off, the greatest one first."""
    left = list(bars.pairs)
    names = sorted({pair[end] for pair in left}, reverse=True)
    while True:
        gone = [name for name in names if not left_of(bars, end, name, left)[0]]
        if not gone:
            break
        names.remove(gone[0])
        left = [pair for pair in left if pair[end] != gone[0]]
    held = []
    for name in sorted(names):
        some, still = left_of(bars, end, name, left)
        held.append((name, tuple((pair, bars.holding(pair, still)[0]) for pair in some)))
    return tuple(held)


class Finding(Case):
    def test_against_all_orders(self):
        kinds = {}
        for bars in samples(1, 1500):
            for find, end in FINDERS:
                found, fitting = find(bars), sorted(all_by_names(bars, end))
                if fitting:
                    self.assertEqual(found, BySides(fitting[0][0], Order(*fitting[0][1])))
                    self.assertEqual([type(found.names), bool(found)], [tuple, True])
                else:
                    self.assertEqual(found, StuckSides(stuck_names(bars, end)))
                    self.assertIs(bool(found), False)
                key = type(found), bool(find_order(bars))
                kinds[key] = kinds.get(key, 0) + 1
        self.assertEqual(len(kinds), 3, kinds)
        self.assertGreater(min(kinds.values()), 25, kinds)

    def test_turned(self):
        for bars in samples(2, 100):
            one, other = find_by_uses(bars), find_by_sources(~bars)
            self.assertIs(type(one), type(other))
            if one:
                self.assertEqual(one.names, other.names)

    def test_no_pairs(self):
        for find, _ in FINDERS:
            self.assertEqual(find(bars=Bars([])), BySides((), Order()))
            self.assertEqual(find(Bars([("a", "x")])).names, (("a",), ("x",))[find is find_by_uses])
            stuck = find(Bars([("a", "x")], (("a", "x"), None, None)))
            self.assertEqual(stuck.held, ((("a", "x")[find is find_by_uses], ((("a", "x"), (("a", "x"), None, None)),)),))

    def test_cross(self):
        stuck = find_by_sources(CROSS)
        self.assertEqual(stuck.held, (
            ("a", ((("a", "x"), (("a", "x"), ("b", "x"), None)),)), ("b", ((("b", "y"), (("b", "y"), ("a", "y"), None)),))))
        self.assertEqual([name for name, some in find_by_uses(CROSS).held], ["x", "y"])
        self.assertEqual(str(find_order(CROSS).order), "a y ; b x ; a x ; b y")

    def test_those_that_can_be_taken_off_are_not_held(self):
        pairs = pairs_of("ab", "xy") + (("c", "z"),)
        bars = Bars.of(pairs, [(("a", "x"), ("b", "x"), None), (("b", "y"), ("a", "y"), None), (("a", "y"), ("c", "z"), None)])
        self.assertEqual([name for name, some in find_by_sources(bars).held], ["a", "b"])
        self.assertEqual([[pair for pair, bar in some] for name, some in find_by_sources(bars).held], [[("a", "x")], [("b", "y")]])
        self.assertEqual([find_by_uses(bars).names, str(find_by_uses(bars).order)], [("x", "z", "y"), "b x ; a x ; c z ; a y ; b y"])

    def test_the_names_come_ahead_of_the_order(self):
        # The least pair, a x, stands last: of the least names b comes first.
        bars = Bars(pairs_of("ab", "xy"), (("a", "x"), ("b", "x"), ("b", "y")), (("a", "y"), ("b", "y"), None))
        found = find_by_sources(bars)
        self.assertEqual([found.names, str(found.order)], [("b", "a"), "b x ; b y ; a x ; a y"])
        self.assertEqual(str(find_by_uses(bars).order), "b x ; a x ; b y ; a y")

    def test_six_by_six(self):
        found = find_by_sources(Bars(SIX_BY_SIX))
        self.assertEqual([found.names, found.order], [tuple("abcdef"), Order(*SIX_BY_SIX)])
        back = [(p, q, None) for p, q in zip(SIX_BY_SIX, SIX_BY_SIX[1:])]
        found = find_by_sources(Bars.of(SIX_BY_SIX, back))
        self.assertEqual([found.names, found.order], [tuple("fedcba"), Order(*SIX_BY_SIX[::-1])])
        stuck = find_by_uses(Bars.of(SIX_BY_SIX, back))
        self.assertEqual([name for name, some in stuck.held], list("uvwxyz"))
        self.assertEqual(stuck.held, stuck_names(Bars.of(SIX_BY_SIX, back), 1))
        table = Table({a: {x: 10 + k + n for n, x in enumerate("uvwxyz")} for k, a in enumerate("abcdef")})
        for find, end in FINDERS:
            found = find(Bars.best(table))
            self.assertEqual(found.names, (tuple("fedcba"), tuple("zyxwvu"))[end])
            self.assertIsNone(Bars.best(table).first_broken(found.order))

    def test_no_bars(self):
        for find, _ in FINDERS:
            for value in others(Bars):
                self.told(BadBars("bars"), find, value)


class Papers(Case):
    def test_papers(self):
        self.is_paper(BySides, ["names", "order"], True)
        self.is_paper(StuckSides, ["held"], False)


if __name__ == "__main__":
    unittest.main()
