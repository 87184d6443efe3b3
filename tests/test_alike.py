"""Alike orders: against all amounts 0 and 1, and against all exchanges of neighbours that do not meet."""

import itertools
import math
import random
import unittest

from filledrow.alike import (
    Apart, alike, alike_orders, count_alike, exchanges, normal, shows_apart, shows_exchanges)
from filledrow.errors import BadOrder, TooMany
from filledrow.orders import Order
from filledrow.sides import Side
from tests.support import ANY, FOUR, SIX_BY_SIX, Case, others, pairs_of

AX, AY, BX, BY = FOUR
SIX = pairs_of("ab", "xyz")
APART = tuple(zip("abcdefghijklm", "nopqrstuvwxyz"))


def all_amounts(pairs):
    """All amounts 0 and 1 of the names of some pairs."""
    sources, uses = sorted({a for a, _ in pairs}), sorted({x for _, x in pairs})
    for row in itertools.product((0, 1), repeat=len(sources) + len(uses)):
        yield Side.of(dict(zip(sources, row))), Side.of(dict(zip(uses, row[len(sources):])))


def fills(row):
    """What an order fills, for all amounts 0 and 1."""
    return [Order(*row)(*sides) for sides in all_amounts(row)]


def do_meet(one, other):
    return one[0] == other[0] or one[1] == other[1]


def reachable(row):
    """All rows that come by exchanges of neighbours that do not meet, each with the fewest exchanges."""
    found, now = {row: 0}, [row]
    while now:
        then = []
        for told in now:
            for k in range(len(told) - 1):
                if not do_meet(told[k], told[k + 1]):
                    other = told[:k] + (told[k + 1], told[k]) + told[k + 2:]
                    if other not in found:
                        found[other] = found[told] + 1
                        then.append(other)
        now = then
    return found


def samples(seed, many, most=6):
    """Orders by chance of up to two sources with three uses, and of three by three."""
    chance = random.Random(seed)
    for _ in range(many):
        pairs = chance.choice([FOUR, SIX, pairs_of("abc", "xyz"), pairs_of("ax", "xa")])
        row = chance.sample(list(pairs), chance.randint(0, min(most, len(pairs))))
        other = list(row)
        if chance.random() < 0.4:
            other = list(chance.choice(list(reachable(tuple(row)))))
        else:
            chance.shuffle(other)
        yield tuple(row), tuple(other)


class Alike(Case):
    def test_all_amounts(self):
        told = [0, 0]
        for one, other in samples(1, 400):
            is_alike = fills(one) == [Order(*other)(*sides) for sides in all_amounts(one)]
            found = alike(Order(*one), Order(*other))
            self.assertIs(found is None, is_alike)
            self.assertIs(other in reachable(one), is_alike)
            told[is_alike] += 1
            if not is_alike:
                first, then = min((p, q) for p in one for q in one if do_meet(p, q) and one.index(p) < one.index(q)
                                  and other.index(p) > other.index(q))
                sources, uses = Side.of({first[0]: 1, then[0]: 1}), Side.of({first[1]: 1, then[1]: 1})
                self.assertEqual(found, Apart(first, then, sources, uses))
                self.assertIs(shows_apart(Order(*one), Order(*other), found), True)
                self.assertIs(shows_apart(Order(*other), Order(*one), found), False)
                self.assertNotEqual(Order(*one)(sources, uses), Order(*other)(sources, uses))
        self.assertGreater(min(told), 100)

    def test_all_orders_of_four(self):
        for one, other in itertools.product(itertools.permutations(FOUR), repeat=2):
            self.assertIs(alike(one=Order(*one), other=Order(*other)) is None, fills(one) == [
                Order(*other)(*sides) for sides in all_amounts(one)])

    def test_great(self):
        order = Order(*SIX_BY_SIX)
        self.assertIsNone(alike(order, order))
        found = alike(order, order[::-1])
        self.assertEqual([found.first, found.then], [("a", "u"), ("a", "v")])
        self.assertIs(shows_apart(order, order[::-1], found), True)
        self.assertEqual([alike(Order(), Order()), normal(Order()), count_alike(Order())], [None, Order(), 1])

    def test_wrong(self):
        for call in (alike, exchanges, lambda one, other: shows_apart(one, other, 5), lambda one, other: shows_exchanges(one, other, 5)):
            for value in others(Order):
                self.told(BadOrder("one"), call, value, 5)
                self.told(BadOrder("one"), call, value, Order(AX))
                self.told(BadOrder("other"), call, Order(AX, AY), value)
            for other in [Order(), Order(AX), Order(AX, BX), Order(AX, AY, BX)]:
                self.told(BadOrder("other"), call, Order(AX, AY), other)
        for call in (normal, count_alike, lambda order: next(iter(alike_orders(order)))):
            for value in others(Order):
                self.told(BadOrder("order"), call, value)


class ShowsApart(Case):
    def setUp(self):
        self.one, self.other = Order(BY, AX, AY, BX), Order(AX, AY, BY, BX)
        self.sides = Side(a=1, b=1), Side(y=1)

    def shows(self, *parts):
        return shows_apart(self.one, self.other, Apart(*parts))

    def test_right(self):
        paper = alike(self.one, self.other)
        self.assertEqual(paper, Apart(BY, AY, *self.sides))
        self.assertIs(shows_apart(one=self.one, other=self.other, paper=paper), True)
        self.assertIs(self.shows(BY, AY, Side(a=7, b=5), Side(y=3)), True)
        self.assertIs(self.shows(BY, AY, Side(a=7, b=5, q=2), Side(y=3, x=1, q=2)), True)

    def test_sides_of_other_names(self):
        one, other = Order(AX, AY, ("c", "z"), ("d", "z")), Order(AY, AX, ("d", "z"), ("c", "z"))
        paper = Apart(AX, AY, Side(c=1, d=1), Side(z=1))
        self.assertIs(shows_apart(one, other, paper), True)
        self.assertIs(shows_apart(one, other, Apart(AX, AY, Side(c=1), Side(z=1))), False)
        self.assertIs(shows_apart(one, other, Apart(AX, ("d", "z"), Side(c=1, d=1), Side(z=1))), False)
        one, other = Order(AX, AY, ("c", "z"), ("d", "z")), Order(AX, AY, ("d", "z"), ("c", "z"))
        self.assertIs(shows_apart(one, other, Apart(("c", "z"), ("d", "z"), Side(c=1, d=1), Side(z=1))), True)
        for first, then in ((AX, AY), (AY, AX), (AX, AX), (("d", "z"), ("c", "z"))):
            self.assertIs(shows_apart(one, other, Apart(first, then, Side(c=1, d=1), Side(z=1))), False)

    def test_pairs(self):
        self.assertIs(self.shows(AY, BY, *self.sides), False)
        self.assertIs(self.shows(BY, AX, *self.sides), False)
        self.assertIs(self.shows(BY, BX, *self.sides), False)
        self.assertIs(self.shows(BY, BY, *self.sides), False)
        self.assertIs(self.shows(AX, AY, *self.sides), False)
        self.assertIs(self.shows(BY, ("c", "y"), *self.sides), False)
        self.assertIs(self.shows(list(BY), AY, *self.sides), False)
        self.assertIs(self.shows(BY, list(AY), *self.sides), False)

    def test_amounts(self):
        for sides in [(Side(), Side()), (Side(a=1), Side(y=1)), (Side(a=1, b=1), Side(y=2)), (Side(y=1), Side(a=1, b=1)),
                      (Side(q=1), Side(q=1))]:
            self.assertIs(self.shows(BY, AY, *sides), False)

    def test_other_kinds(self):
        parts = [BY, AY, *self.sides]
        for value in ANY:
            self.assertIs(shows_apart(self.one, self.other, value), False)
            for k in range(4):
                self.assertIs(self.shows(*parts[:k], value, *parts[k + 1:]), False)
        self.assertIs(shows_apart(self.one, self.other, tuple(parts)), False)
        self.assertIs(self.shows(BY, AY, {"a": 1, "b": 1}, Side(y=1)), False)

    def test_alike_orders_are_never_shown(self):
        self.assertIs(shows_apart(self.one, normal(self.one), Apart(BY, AX, *self.sides)), False)


class AllAlike(Case):
    def test_all_exchanges(self):
        for row, _ in samples(2, 250):
            rows = sorted(reachable(row))
            order = Order(*row)
            self.assertEqual([told.pairs for told in alike_orders(order)], rows)
            self.assertEqual([count_alike(order), normal(order).pairs], [len(rows), rows[0]])
            self.assertEqual(count_alike(order=order), len(rows))
            self.assertEqual(normal(order=Order(*rows[-1])), Order(*rows[0]))
            self.assertTrue(all(alike(order, told) is None for told in alike_orders(order=order)))

    def test_normal_tells_whether_alike(self):
        for one, other in samples(3, 300):
            is_alike = alike(Order(*one), Order(*other)) is None
            self.assertIs(normal(Order(*one)) == normal(Order(*other)), is_alike)

    def test_great_counts(self):
        self.assertEqual(count_alike(Order(*APART[:12])), math.factorial(12))
        self.assertEqual(count_alike(Order(*[("a", x) for x in "mnopqrstuvwx"])), 1)
        self.assertEqual(count_alike(Order(*pairs_of("ab", "uvwxyz"))), math.comb(12, 6) // 7)
        self.told(TooMany("pairs", 12), count_alike, Order(*APART[:13]))
        self.told(TooMany("pairs", 12), count_alike, Order(*SIX_BY_SIX[:13]))

    def test_the_first_ones_at_once(self):
        order = Order(*SIX_BY_SIX[::-1])
        some = list(itertools.islice(alike_orders(order), 60))
        self.assertEqual([some[0], len(some)], [normal(order), 60])
        for one, other in zip(some, some[1:]):
            self.assertLess(one.pairs, other.pairs)
            self.assertIsNone(alike(order, other))
        some = list(itertools.islice(alike_orders(Order(*APART)), 200))
        self.assertEqual([told.pairs for told in some], list(itertools.islice(itertools.permutations(APART), 200)))

    def test_a_generator(self):
        self.assertRaises(BadOrder, lambda: next(iter(alike_orders(5))))
        told = alike_orders(Order(AX))
        self.assertEqual([next(told), next(told, None)], [Order(AX), None])


class Exchanges(Case):
    def test_as_few_as_possible(self):
        told = [0, 0]
        for one, other in samples(4, 500):
            many = reachable(one).get(other)
            if many is None:
                self.told(BadOrder("other"), exchanges, Order(*one), Order(*other))
                self.assertIs(shows_exchanges(Order(*one), Order(*other), ()), False)
            else:
                row, found = list(one), exchanges(one=Order(*one), other=Order(*other))
                self.assertIsInstance(found, tuple)
                self.assertEqual(len(found), many)
                for k in found:
                    self.assertFalse(do_meet(row[k], row[k + 1]))
                    row[k:k + 2] = row[k:k + 2][::-1]
                self.assertEqual(tuple(row), other)
                self.assertIs(shows_exchanges(Order(*one), Order(*other), found), True)
                self.assertIs(shows_exchanges(Order(*other), Order(*one), found[::-1]), True)
            told[many is None] += 1
        self.assertGreater(min(told), 100)

    def test_all_tuples(self):
        row = (AX, BY, AY, BX, ("c", "z"))
        for other, many in reachable(row).items():
            for length in range(min(many + 3, 5)):
                for told in itertools.product(range(-1, 5), repeat=length):
                    now = list(row)
                    for k in told:
                        if now and 0 <= k < 4 and not do_meet(now[k], now[k + 1]):
                            now[k:k + 2] = now[k:k + 2][::-1]
                        else:
                            now = []
                    self.assertIs(shows_exchanges(Order(*row), Order(*other), told), tuple(now) == other and length == many)

    def test_great(self):
        one, other = Order(*SIX_BY_SIX[::-1]), normal(Order(*SIX_BY_SIX[::-1]))
        for start, end in ((one, other), (other, one)):
            self.assertIs(shows_exchanges(start, end, exchanges(start, end)), True)
        one = Order(*APART)
        self.assertEqual(len(exchanges(one, one[::-1])), 78)
        self.assertIs(shows_exchanges(one, one[::-1], exchanges(one, one[::-1])), True)

    def test_bent(self):
        one, other = Order(AX, BY, ("c", "z"), AY), Order(("c", "z"), BY, AX, AY)
        found = exchanges(one, other)
        self.assertEqual(len(found), 3)
        self.assertIs(shows_exchanges(one=one, other=other, value=found), True)
        bent = [list(found), found + (0,), found + (0, 0), found[:-1], found[1:], (), tuple(str(k) for k in found),
                tuple(float(k) for k in found), (found,), dict(zip(found, found)), tuple(k - 4 for k in found)]
        for value in [*ANY, *bent]:
            self.assertIs(shows_exchanges(one, other, value), False)
        for k in range(3):
            for value in [*ANY, found[k] + 1, found[k] - 1, bool(found[k]), 3, 10 ** 29]:
                if type(value) is not int or value != found[k]:
                    self.assertIs(shows_exchanges(one, other, found[:k] + (value,) + found[k + 1:]), False)

    def test_bools_are_no_indexes(self):
        one = Order(AX, BY)
        self.assertEqual(exchanges(one, one[::-1]), (0,))
        self.assertIs(shows_exchanges(one, one[::-1], (0,)), True)
        self.assertIs(shows_exchanges(one, one[::-1], (False,)), False)
        one, other = Order(AY, AX, BY), Order(AY, BY, AX)
        self.assertIs(shows_exchanges(one, other, (1,)), True)
        self.assertIs(shows_exchanges(one, other, (True,)), False)

    def test_indexes_below_0(self):
        one = Order(AX, BY)
        for value in [(-1,), (-2,), (1,), (2,), (0, 0, 0)]:
            self.assertIs(shows_exchanges(one, one[::-1], value), False)

    def test_pairs_that_meet_do_not_change_places(self):
        for one, other in samples(5, 200, 5):
            row, places = list(one), []
            for k in range(len(row)):
                for at in range(row.index(other[k]) - 1, k - 1, -1):
                    row[at:at + 2] = row[at:at + 2][::-1]
                    places.append(at)
            self.assertEqual(tuple(row), other)
            is_alike = other in reachable(one)
            self.assertIs(shows_exchanges(Order(*one), Order(*other), tuple(places)), is_alike)

    def test_none_needed(self):
        self.assertEqual([exchanges(Order(), Order()), exchanges(Order(AX), Order(AX))], [(), ()])
        self.assertIs(shows_exchanges(Order(), Order(), ()), True)
        self.assertIs(shows_exchanges(Order(), Order(), (0,)), False)
        self.assertIs(shows_exchanges(Order(AX), Order(AX), (0,)), False)
        self.assertIs(shows_exchanges(Order(AX, BY), Order(AX, BY), (0, 0)), False)


class Papers(Case):
    def test_apart(self):
        self.is_paper(Apart, ["first", "then", "sources", "uses"], False)


if __name__ == "__main__":
    unittest.main()
