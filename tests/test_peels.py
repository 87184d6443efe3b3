"""Peeling: least orders, stuck sets, all orders, against all orders of small lots of pairs."""

import itertools
import math
import random
import unittest

from filledrow.bars import Bars
from filledrow.errors import BadBars, TooMany
from filledrow.orders import Order
from filledrow.peels import Found, Stuck, count_orders, find_order, firsts, free_pairs, lasts, narrowed, orders
from filledrow.tables import Table
from tests.support import ANY, FOUR, SIX_BY_SIX, Case, others
from tests.test_bars import NO_PAIR_LISTS, all_bars, breaks

AX, AY, BX, BY = FOUR
FIVE = FOUR + (("c", "x"),)


def samples():
    """Small lots of pairs and bars by chance, with few and with many bars."""
    chance = random.Random(2)
    yield Bars([])
    for _ in range(250):
        pairs = FIVE[:chance.randint(1, 5)]
        yield Bars(pairs, *[chance.choice(all_bars(pairs)) for _ in range(chance.randint(0, 9))])


def held_among(bars, left, own):
    """The bars that hold a pair when some pairs are left."""
    return [bar for bar in bars if bar[0] == own and all(pair is None or pair in left for pair in bar[1:])]


def greatest_stuck(bars):
    """The union of all stuck sets."""
    sets = []
    for many in range(1, len(bars.pairs) + 1):
        for some in itertools.combinations(bars.pairs, many):
            if all(held_among(bars, some, own) for own in some):
                sets.append(some)
    return [pair for pair in bars.pairs if any(pair in some for some in sets)]


def good_rows(bars):
    """All rows of the pairs that break no bar, ascending."""
    return [row for row in itertools.permutations(bars.pairs) if not any(breaks(row, bar) for bar in bars)]


class AgainstAllOrders(Case):
    def test_find_order(self):
        for bars in samples():
            rows, told = good_rows(bars), find_order(bars)
            if rows:
                self.assertEqual([told, bool(told)], [Found(Order(*rows[0])), True])
                self.assertEqual(greatest_stuck(bars), [])
                self.assertIs(narrowed(bars), bars)
            else:
                stuck = greatest_stuck(bars)
                self.assertEqual(told, Stuck(tuple((pair, held_among(bars, stuck, pair)[0]) for pair in stuck)))
                self.assertIs(bool(told), False)

    def test_narrowed(self):
        for bars in samples():
            stuck = greatest_stuck(bars)
            if stuck:
                wanted = Bars.of(stuck, [bar for pair in stuck for bar in held_among(bars, stuck, pair)])
                self.assertEqual(narrowed(bars), wanted)
                self.assertEqual([pair for pair, _ in find_order(wanted).held], stuck)

    def test_orders(self):
        for bars in samples():
            rows = good_rows(bars)
            self.assertEqual([order.pairs for order in orders(bars)], rows)
            self.assertEqual(count_orders(bars), len(rows))

    def test_firsts_and_lasts(self):
        for bars in samples():
            rows = good_rows(bars) if bars.pairs else []
            self.assertEqual(firsts(bars), tuple(sorted({row[0] for row in rows})))
            self.assertEqual(lasts(bars), tuple(sorted({row[-1] for row in rows})))

    def test_free_pairs(self):
        for bars in samples():
            for many in range(len(bars.pairs) + 1):
                for left in itertools.combinations(bars.pairs, many):
                    wanted = tuple(pair for pair in left if not held_among(bars, left, pair))
                    self.assertEqual(free_pairs(bars, list(left[::-1])), wanted)


class Edges(Case):
    def test_without_pairs(self):
        bars = Bars([])
        self.assertEqual([find_order(bars), count_orders(bars), list(orders(bars))], [Found(Order()), 1, [Order()]])
        self.assertEqual([firsts(bars), lasts(bars), free_pairs(bars, [])], [(), (), ()])

    def test_a_pair_that_can_stand_nowhere(self):
        bars = Bars([AX, AY], (AX, None, None))
        self.assertEqual(find_order(bars), Stuck(((AX, (AX, None, None)),)))
        self.assertEqual([firsts(bars), lasts(bars), list(orders(bars)), count_orders(bars)], [(), (), [], 0])
        self.assertEqual(str(narrowed(bars)), "a x ; a x none none")

    def test_count(self):
        pairs = SIX_BY_SIX[:12]
        self.assertEqual(count_orders(bars=Bars(pairs)), math.factorial(12))
        self.assertEqual(count_orders(Bars.ahead(pairs, pairs[3], pairs[1])), math.factorial(12) // 2)
        self.told(TooMany("pairs", 12), count_orders, Bars(SIX_BY_SIX[:13]))
        self.told(TooMany("pairs", 12), count_orders, Bars(SIX_BY_SIX[:13], (SIX_BY_SIX[0], None, None)))

    def test_left(self):
        bars = Bars(FOUR)
        self.assertEqual(free_pairs(bars=bars, left=(BY, AX)), (AX, BY))
        for value in NO_PAIR_LISTS:
            self.told(BadBars("left"), free_pairs, bars, value)
        for value in [[("c", "x")], [AX, AX], [AX, None], (AX, ("x", "a")), {AX: True}]:
            self.told(BadBars("left"), free_pairs, bars, value)

    def test_no_bars(self):
        calls = [find_order, count_orders, firsts, lasts, narrowed, lambda bars: list(orders(bars)), lambda bars: free_pairs(bars, 5)]
        for call in calls:
            for value in others(Bars):
                self.told(BadBars("bars"), call, value)
        self.told(BadBars("bars"), lambda: next(iter(orders(5))))

    def test_by_name(self):
        bars = Bars([AX])
        self.assertEqual([find_order(bars=bars).order, firsts(bars=bars), lasts(bars=bars), narrowed(bars=bars)], [
            Order(AX), (AX,), (AX,), bars])
        self.assertEqual(list(orders(bars=bars)), [Order(AX)])

    def test_the_left_list_stays(self):
        left = [BY, AX]
        free_pairs(Bars(FOUR), left)
        self.assertEqual(left, [BY, AX])


class Great(Case):
    def test_thirty_six_pairs(self):
        table = Table.rated({name: 10 ** (28 + k) + k for k, name in enumerate("abcdef")}, {name: k + 2 for k, name in enumerate("uvwxyz")})
        self.assertEqual(len(table.pairs), 36)
        for bars in (Bars.best(table), Bars.used_up(table), Bars(SIX_BY_SIX)):
            told = find_order(bars)
            if told:
                self.assertIsNone(bars.first_broken(told.order))
                some = list(itertools.islice(orders(bars), 50))
                self.assertEqual([some[0], len(some)], [told.order, 50])
                for one, other in zip(some, some[1:]):
                    self.assertLess(one.pairs, other.pairs)
                    self.assertIsNone(bars.first_broken(other))
                self.assertIn(told.order[0], firsts(bars))
                self.assertIn(told.order[-1], lasts(bars))
            else:
                self.fail("rated tables have a best order")

    def test_stuck_at_once(self):
        pairs = SIX_BY_SIX
        bars = Bars(pairs, (pairs[-1], pairs[-2], None), (pairs[-2], pairs[-1], None))
        self.assertEqual(list(orders(bars)), [])
        self.assertEqual([pair for pair, _ in find_order(bars).held], list(pairs[-2:]))

    def test_greatest_lot_of_bars(self):
        places = {pair: at for at, pair in enumerate(SIX_BY_SIX[::-1])}
        bars = Bars.of(SIX_BY_SIX, [bar for bar in all_bars(SIX_BY_SIX) if not breaks(SIX_BY_SIX[::-1], bar)])
        self.assertGreater(len(bars), 10000)
        self.assertEqual(find_order(bars), Found(Order.of(SIX_BY_SIX[::-1])))
        self.assertEqual([firsts(bars), lasts(bars)], [SIX_BY_SIX[-1:], SIX_BY_SIX[:1]])
        self.assertEqual([len(list(orders(bars))), len(places)], [1, 36])

    def test_random_tables(self):
        chance = random.Random(9)
        for _ in range(20):
            table = Table({a: {x: chance.choice([0, 1, 10 ** 29 + chance.randint(0, 3)]) for x in "uvwxyz"} for a in "abcdef"})
            bars = Bars.best(table)
            told = find_order(bars)
            if told:
                self.assertIsNone(bars.first_broken(told.order))
            else:
                left = [pair for pair, _ in told.held]
                for pair, bar in told.held:
                    self.assertEqual(bar, bars.holding(pair, left)[0])
                self.assertEqual(free_pairs(bars, left), ())
                self.assertEqual(list(orders(bars)), [])


class Papers(Case):
    def test_found(self):
        for value in ANY:
            paper = Found(order=value)
            self.assertIs(paper.order, value)
            self.assertEqual(paper, Found(value))
            self.assertIs(bool(paper), True)
            self.assertNotEqual(paper, value)
            self.assertNotEqual(paper, Stuck(value))
        self.assertEqual(Found(1), Found(True))
        self.assertNotEqual(Found(1), Found(2))

    def test_stuck(self):
        for value in ANY:
            paper = Stuck(held=value)
            self.assertIs(paper.held, value)
            self.assertEqual(paper, Stuck(value))
            self.assertIs(bool(paper), False)
            self.assertNotEqual(paper, value)
            self.assertNotEqual(paper, Found(value))
        self.assertEqual(Stuck(0), Stuck(False))
        self.assertNotEqual(Stuck(()), Stuck([]))


if __name__ == "__main__":
    unittest.main()
