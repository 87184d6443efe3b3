"""Looks at what peeling tells: all orders, all stuck sets, and papers bent in one part."""

import itertools
import random
import unittest

from filledrow.bars import Bars
from filledrow.errors import BadBars
from filledrow.look_peels import shows_found, shows_stuck
from filledrow.orders import Order
from filledrow.peels import Found, Stuck, find_order
from tests.support import ANY, FOUR, SIX_BY_SIX, Case, others
from tests.test_bars import all_bars, breaks
from tests.test_peels import held_among, samples

AX, AY, BX, BY = FOUR


def stuck_sets(bars):
    """All stuck sets, each as the rows of bars by which its pairs are held."""
    for many in range(1, len(bars.pairs) + 1):
        for some in itertools.combinations(bars.pairs, many):
            rows = [held_among(bars, some, own) for own in some]
            if all(rows):
                yield some, rows


def is_right(bars, held):
    """Whether a tuple of (pair, bar) is one of a stuck set, by the words of the document."""
    told = [pair for pair, _ in held]
    return (len(held) > 0 and len(set(told)) == len(told)
            and all(bar in list(bars) and bar[0] == pair for pair, bar in held)
            and all(other is None or other in told for _, bar in held for other in bar[1:]))


class ShowsFound(Case):
    def test_all_orders(self):
        for bars in samples():
            for row in itertools.islice(itertools.permutations(bars.pairs), 0, None, 5 if len(bars.pairs) == 5 else 1):
                self.assertIs(shows_found(bars, Found(Order(*row))), not any(breaks(row, bar) for bar in bars))

    def test_other_pairs(self):
        bars = Bars([AX, AY, BX], (BX, AX, None))
        self.assertIs(shows_found(bars=bars, paper=Found(Order(AY, AX, BX))), True)
        for row in [(), (AX, AY), (AX, AY, BX, BY), (AX, AY, BY), (AX, AY, ("x", "b"))]:
            self.assertIs(shows_found(bars, Found(Order(*row))), False)
        self.assertIs(shows_found(Bars([]), Found(Order())), True)
        self.assertIs(shows_found(Bars([AX], (AX, None, None)), Found(Order(AX))), False)

    def test_other_values(self):
        for value in ANY:
            self.assertIs(shows_found(Bars([AY]), value), False)
            self.assertIs(shows_found(Bars([AY]), Found(value)), False)
        self.assertIs(shows_found(Bars([AX, AY]), Found((AX, AY))), False)
        self.assertIs(shows_found(Bars([AX, AY]), Stuck(Order(AX, AY))), False)

    def test_no_bars(self):
        for value in others(Bars):
            self.told(BadBars("bars"), shows_found, value, 5)


class ShowsStuck(Case):
    def test_all_stuck_sets(self):
        chance, many = random.Random(4), 0
        for bars in samples():
            for some, rows in stuck_sets(bars):
                held = [(pair, chance.choice(row)) for pair, row in zip(some, rows)]
                self.assertIs(shows_stuck(bars, Stuck(tuple(held))), True)
                self.assertIs(shows_stuck(bars, Stuck(tuple(held[::-1]))), True)
                many += 1
        self.assertGreater(many, 200)

    def test_by_chance(self):
        chance, told = random.Random(6), [0, 0]
        for bars in samples():
            choices = [(bar[0], bar) for bar in bars] + [(AX, (AX, None, None)), (AX, (AY, AX, None))]
            for _ in range(20):
                held = tuple(chance.choice(choices) for _ in range(chance.randint(0, 4)))
                self.assertIs(shows_stuck(bars, Stuck(held)), is_right(bars, held))
                told[is_right(bars, held)] += 1
        self.assertGreater(min(told), 100)

    def test_a_lesser_set(self):
        bars = Bars(FOUR, (AX, AY, None), (AY, AX, None), (BX, BY, None), (BY, BX, None), (BY, AX, AY))
        self.assertEqual(len(find_order(bars).held), 4)
        self.assertIs(shows_stuck(bars, find_order(bars)), True)
        lesser = ((AY, (AY, AX, None)), (AX, (AX, AY, None)))
        self.assertIs(shows_stuck(bars=bars, paper=Stuck(lesser)), True)
        self.assertIs(shows_stuck(bars, Stuck(lesser + ((BY, (BY, AX, AY)),))), True)
        self.assertIs(shows_stuck(bars, Stuck(lesser + ((BX, (BX, BY, None)),))), False)

    def test_bent(self):
        bars = Bars([AX, AY, BX], (AX, AY, BX), (AY, AX, None), (BX, None, None), (BX, AX, AY))
        held = ((AX, (AX, AY, BX)), (AY, (AY, AX, None)), (BX, (BX, None, None)))
        self.assertIs(shows_stuck(bars, Stuck(held)), True)
        for k in range(3):
            pair, bar = held[k]
            rest = held[:k] + held[k + 1:]
            self.assertIs(shows_stuck(bars, Stuck(held + held[k:k + 1])), False)
            bent = [(pair, held[k - 1][1]), (held[k - 1][0], bar), [pair, bar], (pair, bar, bar), (pair,), (bar, pair),
                    (list(pair), bar), (pair, list(bar)), (pair, bar[:2]), (pair, (bar[0], bar[2], bar[1], None)),
                    (pair, (pair, list(AX), None)), ([], bar), (pair, (bar[0], [], {}))]
            for item in [*bent, *ANY, *[(pair, value) for value in ANY], *[(value, bar) for value in ANY if value != AX]]:
                self.assertIs(shows_stuck(bars, Stuck(rest + (item,))), False, item)
        self.assertIs(shows_stuck(bars, Stuck(held[1:])), False)
        self.assertIs(shows_stuck(bars, Stuck(held[:2])), False)
        self.assertIs(shows_stuck(bars, Stuck(held[2:])), True)
        for bar in [(AX, BX, AY), (AX, None, AY), (AX, AY, AY), (AX, BX, None), (AX, None, None)]:
            self.assertIs(shows_stuck(bars, Stuck(((AX, bar),) + held[1:])), False, bar)

    def test_other_values(self):
        bars = Bars([AX, AY], (AX, AY, None), (AY, AX, None))
        held = find_order(bars).held
        for value in [*ANY, list(held), {held: True}, dict(held), (held,)]:
            self.assertIs(shows_stuck(bars, value), False)
            self.assertIs(shows_stuck(bars, Stuck(value)), False)
        self.assertIs(shows_stuck(bars, Found(held)), False)
        self.assertIs(shows_stuck(Bars([]), Stuck(())), False)

    def test_no_bars(self):
        for value in others(Bars):
            self.told(BadBars("bars"), shows_stuck, value, 5)

    def test_great(self):
        bars = Bars.of(SIX_BY_SIX, all_bars(SIX_BY_SIX))
        stuck = find_order(bars)
        self.assertEqual([len(stuck.held), shows_stuck(bars, stuck)], [36, True])


if __name__ == "__main__":
    unittest.main()
