"""What follows from bars, against all orders of small lots of pairs, and looks at the papers that tell it."""

import itertools
import random
import unittest

from filledrow.bars import Bars
from filledrow.errors import BadBars, NoPair, TooMany
from filledrow.follows import Fails, Follows, closed, follows, last_place, same_orders, surely_ahead, thinned
from filledrow.look_follows import shows_follows
from filledrow.orders import Order
from filledrow.peels import Found, Stuck, find_order
from tests.support import ANY, FOUR, NO_PAIRS, SIX_BY_SIX, Case, others
from tests.test_bars import NO_BARS, all_bars, breaks
from tests.test_peels import FIVE, good_rows, samples

AX, AY, BX, BY = FOUR


def few(step):
    """Some of the small lots of bars by chance."""
    return list(samples())[::step]


def forms(bar):
    """A bar in all its forms."""
    own, q, r = bar
    return {bar, (own, r, q)} | ({(own, q, q)} if r is None else set())


def together(bars, bar):
    """The bars together with those that put q and r behind p."""
    return Bars(bars.pairs, *bars, *[(other, bar[0], None) for other in bar[1:] if other is not None])


def behind_all(rows, bar):
    """Whether all rows keep a bar."""
    return not any(breaks(row, bar) for row in rows)


class AgainstAllOrders(Case):
    def test_follows(self):
        told = {True: 0, False: 0}
        for bars in few(3):
            rows = good_rows(bars)
            for bar in all_bars(bars.pairs):
                broken = [row for row in rows if breaks(row, bar)]
                wanted = Fails(Order(*broken[0])) if broken else Follows(find_order(together(bars, bar)).held)
                for form in forms(bar):
                    found = follows(bars, form)
                    self.assertEqual([found, bool(found)], [wanted, not broken])
                    self.assertIs(shows_follows(bars, form, found), True)
                told[not broken] += 1
        self.assertGreater(min(told.values()), 500)

    def test_without_an_order(self):
        bars = Bars(FOUR, (AX, AY, None), (AY, AX, None), (BX, BY, None))
        for bar in all_bars(FOUR):
            self.assertEqual(follows(bars, bar), Follows(find_order(together(bars, bar)).held))
        self.assertEqual([len(surely_ahead(bars)), last_place(bars, BX)], [12, None])
        self.assertEqual(closed(bars), Bars.of(FOUR, all_bars(FOUR)))

    def test_surely_ahead(self):
        for bars in samples():
            rows = good_rows(bars)
            wanted = [(p, q) for p in bars.pairs for q in bars.pairs if p != q and behind_all(rows, (q, p, None))]
            self.assertEqual(surely_ahead(bars), tuple(wanted))

    def test_last_place(self):
        for bars in samples():
            rows = good_rows(bars)
            for pair in bars.pairs:
                self.assertEqual(last_place(bars, pair), max([row.index(pair) for row in rows], default=None))

    def test_closed(self):
        for bars in few(3):
            rows = good_rows(bars)
            wanted = [bar for bar in all_bars(bars.pairs) if behind_all(rows, bar)]
            self.assertEqual(closed(bars), Bars.of(bars.pairs, wanted))

    def test_thinned(self):
        for bars in few(2):
            left = list(bars)
            for bar in list(bars):
                rest = [other for other in left if other != bar]
                if behind_all(good_rows(Bars(bars.pairs, *rest)), bar):
                    left = rest
            self.assertEqual(thinned(bars), Bars.of(bars.pairs, left))
            self.assertEqual(good_rows(thinned(bars)), good_rows(bars))

    def test_same_orders(self):
        chance, told = random.Random(8), {}
        for _ in range(400):
            pairs = FIVE[:chance.randint(0, 5)]
            one, other = [Bars.of(pairs, [chance.choice(all_bars(pairs)) for _ in range(chance.randint(0, 6) if pairs else 0)])
                          for _ in "12"]
            rows, there = good_rows(one), good_rows(other)
            first = [row for row in rows if row not in there] or [row for row in there if row not in rows]
            self.assertEqual(same_orders(one, other), Order(*first[0]) if first else None)
            kind = (bool(rows), bool(there), bool(first), bool(first) and first[0] in rows)
            told[kind] = told.get(kind, 0) + 1
        self.assertEqual(len(told), 6, told)
        self.assertGreater(min(told.values()), 4, told)

    def test_same_orders_of_other_bars(self):
        for bars in few(4):
            for other in (thinned(bars), closed(bars)):
                self.assertIsNone(same_orders(bars, other))
                self.assertIsNone(same_orders(one=other, other=bars))


class Bounds(Case):
    def test_thinned_and_closed(self):
        eight, nine = SIX_BY_SIX[:8], SIX_BY_SIX[:9]
        row = Bars.of(eight, [(p, q, None) for q, p in itertools.combinations(eight, 2)])
        chain = Bars.of(eight, [(p, q, None) for q, p in zip(eight, eight[1:])])
        self.assertEqual([thinned(row), closed(chain) >= row, closed(closed(chain))], [chain, True, closed(chain)])
        self.assertEqual(closed(chain), Bars.of(eight, [bar for bar in all_bars(eight) if not breaks(eight, bar)]))
        self.assertEqual([thinned(Bars(eight)), closed(Bars(eight))], [Bars(eight), Bars(eight)])
        for call in (thinned, closed):
            self.told(TooMany("pairs", 8), call, Bars(nine))
            self.told(TooMany("pairs", 8), call, Bars(nine, (nine[0], None, None)))
            self.assertEqual(call(bars=Bars([])), Bars([]))

    def test_same_orders(self):
        twelve, more = SIX_BY_SIX[:12], SIX_BY_SIX[:13]
        self.assertIsNone(same_orders(Bars(twelve), Bars(twelve)))
        self.assertEqual(same_orders(Bars(twelve), Bars(twelve, (twelve[0], None, None))), Order(*twelve))
        last = Bars(twelve, *[(pair, twelve[-1], None) for pair in twelve[:-1]])
        self.assertEqual(same_orders(last, Bars(twelve)), Order(*twelve))
        self.assertEqual(same_orders(Bars(twelve), last), Order(*twelve))
        self.told(TooMany("pairs", 12), same_orders, Bars(more), Bars(more))
        self.told(TooMany("pairs", 12), same_orders, Bars(more, (more[0], None, None)), Bars(more))
        self.told(BadBars("pairs"), same_orders, Bars(more), Bars(twelve))

    def test_greatest_lots(self):
        last_first = SIX_BY_SIX[::-1]
        bars = Bars.of(SIX_BY_SIX, [bar for bar in all_bars(SIX_BY_SIX) if not breaks(last_first, bar)])
        self.assertEqual(surely_ahead(bars), tuple(sorted(itertools.combinations(last_first, 2))))
        self.assertEqual([last_place(bars, pair) for pair in last_first], list(range(36)))
        bar = (SIX_BY_SIX[-1], SIX_BY_SIX[3], None)
        told = follows(bars, bar)
        self.assertEqual([told, shows_follows(bars, bar, told)], [Fails(Order(*last_first)), True])
        told = follows(bars, (SIX_BY_SIX[3], SIX_BY_SIX[-1], SIX_BY_SIX[5]))
        self.assertEqual([bool(told), shows_follows(bars, (SIX_BY_SIX[3], SIX_BY_SIX[-1], SIX_BY_SIX[5]), told)], [True, True])
        every = Bars.of(SIX_BY_SIX, all_bars(SIX_BY_SIX))
        self.assertEqual([len(surely_ahead(every)), last_place(every, AX)], [36 * 35, None])
        self.assertEqual(len(follows(every, bar).held), 36)

    def test_without_pairs(self):
        bars = Bars([])
        self.assertEqual([surely_ahead(bars), same_orders(bars, bars)], [(), None])
        for value in ANY:
            self.told(BadBars("bar"), follows, bars, value)
            self.told(NoPair(value), last_place, bars, value)

    def test_no_bar_of_the_pairs(self):
        bars = Bars([AX, AY], (AX, AY, None))
        self.assertEqual(follows(bars=bars, bar=(AX, AY, AY)).held[0], (AX, (AX, AY, None)))
        self.assertEqual(follows(bars, (AX, None, None)), Fails(Order(AY, AX)))
        for value in [*ANY, *NO_BARS, (BX, None, None), (AX, BX, None), (AX, AY, BX), (AX, AY, [])]:
            if value not in [(AX, AY, None), (AX, None, None)]:
                self.told(BadBars("bar"), follows, bars, value)
                self.told(BadBars("bar"), shows_follows, bars, value, 5)


class Wrong(Case):
    def test_no_bars(self):
        good = Bars([AX])
        for value in others(Bars):
            self.told(BadBars("bars"), follows, value, 5)
            self.told(BadBars("bars"), shows_follows, value, 5, 5)
            self.told(BadBars("bars"), same_orders, value, good)
            self.told(BadBars("bars"), same_orders, good, value)
            self.told(BadBars("bars"), last_place, value, 5)
            for call in (surely_ahead, thinned, closed):
                self.told(BadBars("bars"), call, value)
        self.told(BadBars("bars"), same_orders, Bars(SIX_BY_SIX), 5)

    def test_other_pairs(self):
        for other in [Bars([]), Bars([AY]), Bars([AX, AY])]:
            self.told(BadBars("pairs"), same_orders, Bars([AX]), other)
            self.told(BadBars("pairs"), same_orders, other, Bars([AX]))

    def test_no_pair(self):
        for value in [*NO_PAIRS, AY, ("x", "a")]:
            self.told(NoPair(value), last_place, Bars([AX]), value)
            self.told(NoPair(value), last_place, Bars([AX], (AX, None, None)), value)
        self.assertEqual(last_place(bars=Bars([AX]), pair=AX), 0)


class ShowsFollows(Case):
    def setUp(self):
        self.bars = Bars([AX, AY, BX], (BX, AX, AY), (AY, AX, None))

    def test_all_orders(self):
        for bars in few(9):
            for bar in all_bars(bars.pairs):
                for row in itertools.permutations(bars.pairs):
                    wanted = breaks(row, bar) and not any(breaks(row, other) for other in bars)
                    self.assertIs(shows_follows(bars, bar, Fails(Order(*row))), wanted)

    def test_stuck_sets(self):
        bar = (BX, AX, None)
        told = follows(self.bars, bar)
        self.assertEqual(told.held, ((AX, (AX, BX, None)), (AY, (AY, AX, None)), (BX, (BX, AX, AY))))
        self.assertIs(shows_follows(self.bars, bar, Follows(told.held[::-1])), True)
        self.assertIs(shows_follows(bars=self.bars, bar=bar, paper=told), True)
        for k in range(3):
            self.assertIs(shows_follows(self.bars, bar, Follows(told.held[:k] + told.held[k + 1:])), False)
            self.assertIs(shows_follows(self.bars, bar, Follows(told.held + told.held[k:k + 1])), False)
        self.assertIs(shows_follows(self.bars, (BX, AY, None), told), False)
        self.assertIs(shows_follows(self.bars, (AX, None, None), told), False)
        self.assertIs(shows_follows(self.bars, bar, Follows(list(told.held))), False)

    def test_bent(self):
        bar = (BX, AX, None)
        held = follows(self.bars, bar).held
        for k in range(3):
            pair, told = held[k]
            other, strange = held[k - 1]
            bent = [(pair, strange), (other, told), (pair, (pair, None, None)), (pair, (*told[:1], *told[:0:-1])), [pair, told],
                    (list(pair), told), (pair, list(told)), (pair, told, told), (pair,), told, *[(pair, value) for value in ANY],
                    *[(value, told) for value in ANY if value != pair], *ANY]
            for item in bent:
                self.assertIs(shows_follows(self.bars, bar, Follows(held[:k] + (item,) + held[k + 1:])), False, item)

    def test_a_lesser_set(self):
        bars = Bars(FOUR, (AX, AY, None), (AY, AX, None), (BX, BY, None), (BY, BX, None))
        lesser = ((AX, (AX, AY, None)), (AY, (AY, AX, None)))
        for bar in all_bars(FOUR):
            self.assertIs(shows_follows(bars, bar, Follows(lesser)), True)
        self.assertIs(shows_follows(bars, (AX, BX, BY), Follows(((BX, (BX, BY, None)), (BY, (BY, AX, None))))), False)
        self.assertIs(shows_follows(bars, (AX, BX, BY), Follows(lesser + ((BY, (BY, AX, None)),))), True)
        self.assertIs(shows_follows(bars, (AY, BX, BY), Follows(lesser + ((BY, (BY, AX, None)),))), False)

    def test_other_values(self):
        bar = (BX, AX, None)
        for value in [*ANY, Found(Order(AX, AY, BX)), find_order(Bars([AX], (AX, None, None)))]:
            self.assertIs(shows_follows(self.bars, bar, value), False)
            self.assertIs(shows_follows(self.bars, bar, Follows(value)), False)
            self.assertIs(shows_follows(self.bars, (BX, AY, None), Fails(value)), False)
        told = follows(self.bars, bar)
        self.assertIs(shows_follows(self.bars, bar, Stuck(told.held)), False)
        row = Order(AX, BX, AY)
        self.assertIs(shows_follows(self.bars, (BX, AY, None), Fails(row)), True)
        for value in [list(row), row.pairs, Order(AX, BX), Order(AX, BX, AY, BY), Order(BX, AX, AY), Found(row)]:
            self.assertIs(shows_follows(self.bars, (BX, AY, None), Fails(value)), False)
        self.assertIs(shows_follows(self.bars, (BX, AY, None), Found(row)), False)


class Papers(Case):
    def test_papers(self):
        self.is_paper(Follows, ["held"], True)
        self.is_paper(Fails, ["order"], False)


if __name__ == "__main__":
    unittest.main()
