"""Looks at orders by sources and by uses, against the words of the document, and with bent papers."""

import itertools
import random
import unittest

from filledrow.bars import Bars
from filledrow.bysides import BySides, StuckSides, find_by_sources, find_by_uses
from filledrow.errors import BadBars
from filledrow.look_bysides import shows_by_sources, shows_by_uses, shows_stuck_sources, shows_stuck_uses
from filledrow.orders import Order
from filledrow.peels import Found, Stuck
from filledrow.tables import Table
from tests.support import ANY, FOUR, SIX_BY_SIX, Case, others
from tests.test_bysides import CROSS, all_by_names, samples

LOOKS = [(find_by_sources, shows_by_sources, shows_stuck_sources, 0), (find_by_uses, shows_by_uses, shows_stuck_uses, 1)]
TANGLE = Bars(FOUR, (("a", "x"), ("a", "y"), ("b", "x")), (("a", "y"), ("a", "x"), None), (("b", "x"), ("a", "x"), None), (("b", "y"), None, None))


def is_stuck(bars, held, end):
    """Whether held is what a StuckSides may hold, by the words of the document; held is of tuples of the right lengths."""
    names = [name for name, some in held]
    if not held or names != sorted(set(names)):
        return False
    for name, some in held:
        own = [pair for pair, bar in some]
        if not some or own != sorted(set(own)) or any(pair not in bars.pairs or pair[end] != name for pair in own):
            return False
        for pair, bar in some:
            fine = [other is None or (other in own if other[end] == name else other[end] in names) for other in bar[1:]]
            if bar not in list(bars) or bar[0] != pair or not all(fine):
                return False
    return True


def random_held(chance, bars, end):
    """Some names with some of their pairs and a bar of each; not always a stuck set."""
    held = []
    for name in sorted({pair[end] for pair in bars.pairs}):
        some = []
        for pair in [pair for pair in bars.pairs if pair[end] == name]:
            own = [bar for bar in bars if bar[0] == pair]
            if own and chance.random() < 0.8:
                some.append((pair, chance.choice(own)))
        if some and chance.random() < 0.9:
            held.append((name, tuple(some)))
    return tuple(held)


class Going(Case):
    def test_by_chance(self):
        told = {True: 0, False: 0}
        for bars in samples(11, 250):
            for find, shows, _, end in LOOKS:
                fitting = {row: names for names, row in all_by_names(bars, end)}
                found = find(bars)
                if found:
                    self.assertIs(shows(bars, found), True)
                for row in list(itertools.permutations(bars.pairs))[::5]:
                    names = tuple(dict.fromkeys(pair[end] for pair in row))
                    self.assertIs(shows(bars, BySides(names, Order(*row))), row in fitting)
                    told[row in fitting] += 1
        self.assertGreater(min(told.values()), 300)

    def test_bent(self):
        bars = Bars.best(Table.flat({"a": ["x", "y"], "b": ["y", "z"]}))
        for find, shows, _, end in LOOKS:
            found = find(bars)
            names, order = found.names, found.order
            self.assertIs(shows(bars=bars, paper=found), True)
            for told in [names[::-1], names[:-1], names + names[:1], names + ("q",), list(names), "".join(names), (), dict.fromkeys(names), (names,)]:
                self.assertIs(shows(bars, BySides(told, order)), False)
            for told in [order[:-1], order[::-1], order + Order(("c", "q")), Order(), list(order), order.pairs, str(order)]:
                self.assertIs(shows(bars, BySides(names, told)), False)
            for value in ANY:
                self.assertIs(shows(bars, value), False)
                self.assertIs(shows(bars, BySides(value, order)), False)
                self.assertIs(shows(bars, BySides(names, value)), False)
                self.assertIs(shows(bars, BySides((value, *names[1:]), order)), isinstance(value, str) and value == names[0])
            for paper in (Found(order), StuckSides(names), (names, order)):
                self.assertIs(shows(bars, paper), False)

    def test_sides_by_side(self):
        bars = Bars(FOUR)
        self.assertIs(shows_by_sources(bars, BySides(("b", "a"), Order(("b", "y"), ("b", "x"), ("a", "x"), ("a", "y")))), True)
        self.assertIs(shows_by_sources(bars, BySides(("a", "b"), Order(("a", "x"), ("b", "x"), ("b", "y"), ("a", "y")))), False)
        self.assertIs(shows_by_sources(bars, BySides(("a", "b", "a"), Order(("a", "x"), ("b", "x"), ("b", "y"), ("a", "y")))), False)
        self.assertIs(shows_by_uses(bars, BySides(("x", "y"), Order(("b", "x"), ("a", "x"), ("a", "y"), ("b", "y")))), True)
        self.assertIs(shows_by_uses(bars, BySides(("a", "b"), Order(*FOUR))), False)

    def test_no_pairs(self):
        for _, shows, stuck, _ in LOOKS:
            self.assertEqual([shows(Bars([]), BySides((), Order())), shows(Bars([]), BySides([], Order())), stuck(Bars([]), StuckSides(()))], [True, False, False])


class Held(Case):
    def test_by_chance(self):
        chance = random.Random(12)
        told = {True: 0, False: 0}
        for bars in samples(13, 700):
            for find, shows, shows_stuck, end in LOOKS:
                found = find(bars)
                if not found:
                    self.assertIs(shows_stuck(bars, found), True)
                    self.assertIs(is_stuck(bars, found.held, end), True)
                for _ in range(4):
                    held = random_held(chance, bars, end)
                    wanted = is_stuck(bars, held, end)
                    self.assertIs(shows_stuck(bars, StuckSides(held)), wanted)
                    self.assertFalse(wanted and found)
                    told[wanted] += 1
        self.assertGreater(min(told.values()), 150, told)

    def test_not_only_the_greatest(self):
        pairs = FOUR + (("c", "x"),)
        bars = Bars(pairs, *CROSS, (("c", "x"), None, None))
        held = find_by_sources(bars).held
        self.assertEqual([name for name, some in held], ["a", "b", "c"])
        for some, wanted in [(held, True), (held[:2], True), (held[2:], True), (held[:1], False), (held[1:2], False), (held[1:], False)]:
            self.assertIs(shows_stuck_sources(bars, StuckSides(some)), wanted)

    def test_told_pairs_of_the_same_source(self):
        x, y, b = TANGLE.pairs[0], TANGLE.pairs[1], TANGLE.pairs[2]
        bars = {pair: [bar for bar in TANGLE if bar[0] == pair][0] for pair in TANGLE.pairs}
        a, both = ("a", ((x, bars[x]), (y, bars[y]))), ("b", ((b, bars[b]),))
        for held, wanted in [((a, both), True), ((a,), False), ((("a", ((x, bars[x]),)), both), False), ((("a", ((y, bars[y]),)), both), False),
                             ((("a", ((y, bars[y]), (x, bars[x]))), both), False), ((both, a), False), ((a, a, both), False), ((both,), False),
                             ((("b", ((("b", "y"), bars["b", "y"]),)),), True)]:
            self.assertIs(shows_stuck_sources(bars=TANGLE, paper=StuckSides(held)), wanted, held)

    def test_bars_need_not_be_the_first_ones(self):
        bars = Bars([("a", "x"), ("a", "y")], (("a", "x"), ("a", "y"), None), (("a", "x"), None, None))
        for bar, wanted in [((("a", "x"), ("a", "y"), None), False), ((("a", "x"), None, None), True)]:
            self.assertIs(shows_stuck_sources(bars, StuckSides((("a", ((("a", "x"), bar),)),))), wanted)
        self.assertIs(shows_stuck_uses(bars, StuckSides((("x", ((("a", "x"), (("a", "x"), None, None)),)),))), True)
        self.assertIs(shows_stuck_uses(bars, StuckSides((("x", ((("a", "x"), (("a", "x"), None, ("a", "y"))),)),))), False)

    def test_bent(self):
        for find, shows, shows_stuck, end in LOOKS:
            found = find(CROSS)
            (name, some), other = found.held
            pair, bar = some[0]
            self.assertIs(shows_stuck(CROSS, found), True)
            bent = [value for value in ANY]
            for value in bent:
                self.assertIs(shows_stuck(CROSS, value), False)
                for held in [value, (value, other), ((name, some), value), ((value, some), other), ((name, value), other), ((name, (value,)), other),
                             ((name, ((value, bar),)), other), ((name, ((pair, value),)), other), ((name, some, value), other), ((name, (some[0], value)), other),
                             ((name, ((pair, bar, value),)), other), ((name, ((pair, (bar[0], value, bar[2])),)), other)]:
                    right = [((name, some), other), ((name, ((pair, bar),)), other)]
                    self.assertIs(shows_stuck(CROSS, StuckSides(held)), held in right and isinstance(held[0][0], str), held)
            for held in [[(name, some), other], ([name, some], other), ((name, list(some)), other), ((name, ([pair, bar],)), other), ((name, ((list(pair), bar),)), other),
                         ((name, ((pair, list(bar)),)), other), ((name, ()), other), (), ((name, some), (name, some)), (other, (name, some)), ((name, some), ("q", other[1])),
                         ((name, some + some), other), ((name,), other), (name, some)]:
                self.assertIs(shows_stuck(CROSS, StuckSides(held)), False, held)
            self.assertIs(shows_stuck(CROSS, Stuck(found.held)), False)
            self.assertIs(shows_stuck(Bars(CROSS.pairs), found), False)
            self.assertIs(shows(CROSS, found), False)

    def test_great(self):
        back = [(p, q, None) for p, q in zip(SIX_BY_SIX, SIX_BY_SIX[1:])]
        bars = Bars.of(SIX_BY_SIX, back)
        self.assertEqual([shows_by_sources(bars, find_by_sources(bars)), shows_stuck_uses(bars, find_by_uses(bars))], [True, True])
        self.assertEqual([shows_stuck_sources(bars, find_by_sources(bars)), shows_by_uses(bars, find_by_uses(bars))], [False, False])

    def test_no_bars(self):
        for _, shows, shows_stuck, _ in LOOKS:
            for value in others(Bars):
                self.told(BadBars("bars"), shows, value, 5)
                self.told(BadBars("bars"), shows_stuck, value, 5)


if __name__ == "__main__":
    unittest.main()
