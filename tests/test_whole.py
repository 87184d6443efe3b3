"""What goes together over the whole program: tables, wishes, seen fillings, orders, and what is told of them."""

import itertools
import random
import unittest

from filledrow.alike import alike, alike_orders, normal
from filledrow.bars import Bars, joint_pairs
from filledrow.best import shortfall
from filledrow.bysides import find_by_sources, find_by_uses
from filledrow.follows import follows, surely_ahead
from filledrow.look_follows import shows_follows
from filledrow.look_peels import shows_found, shows_stuck
from filledrow.orders import Order
from filledrow.peels import Found, Stuck, find_order, orders
from filledrow.ranges import worth_ranges
from filledrow.seen import Seen, explained, told_ahead
from filledrow.sides import Side
from filledrow.tables import Table
from tests.support import LONG, Case, pairs_of


def random_table(chance, sources="abc", uses="xyz"):
    rows = {a: {x: chance.choice([0, 0, 1, 1, 2, 3]) for x in uses} for a in sources[:chance.randint(1, len(sources))]}
    return Table(rows)


def random_sides(chance, top=3):
    return [Side.of({name: chance.randint(0, top) for name in names}) for names in ("abcq", "xyzq")]


def demands(seed, many):
    """Few pairs, some tables whose scopes lie in them, some wishes, some seen fillings."""
    chance = random.Random(seed)
    for _ in range(many):
        tables = [random_table(chance) for _ in range(chance.randint(0, 2))]
        pairs = list(joint_pairs(*tables))
        if len(pairs) > 6:
            continue
        hidden = chance.sample(pairs, len(pairs))
        wishes = [(hidden[k], hidden[k + 2]) for k in range(len(hidden) - 2) if chance.random() < 0.4]
        sights = [Seen.by(Order.of(hidden), *random_sides(chance)) for _ in range(chance.randint(0, 2))]
        yield pairs, tables, wishes, sights


def joint_bars(pairs, tables, wishes, sights):
    bars = Bars(pairs)
    for table in tables:
        bars = bars | Bars.best(table, pairs)
    for first, then in wishes:
        bars = bars | Bars.ahead(pairs, first, then)
    for seen in sights:
        bars = bars | seen.bars(pairs)
    return bars


def is_never_worse(order, table, chance):
    """Whether an order fills best, for amounts 0 and 1 of the scope and some greater ones."""
    sides = [random_sides(chance, top) for top in (1, 1, 1, 1, 2, LONG)]
    return all(shortfall(order, table, *both) == 0 for both in sides)


class Together(Case):
    def test_tables_wishes_and_sights(self):
        chance = random.Random(1)
        many = {True: 0, False: 0}
        for pairs, tables, wishes, sights in demands(2, 250):
            bars = joint_bars(pairs, tables, wishes, sights)
            fitting = [order for order in (Order(*row) for row in itertools.permutations(pairs)) if all(
                Bars.best(table, pairs).first_broken(order) is None for table in tables) and all(
                order.place(first) < order.place(then) for first, then in wishes) and all(seen.is_explained(order) for seen in sights)]
            found = find_order(bars)
            self.assertEqual(list(orders(bars)), fitting)
            many[bool(fitting)] += 1
            if not fitting:
                self.assertIs(type(found), Stuck)
                self.assertIs(shows_stuck(bars, found), True)
                self.assertFalse(find_by_sources(bars) or find_by_uses(bars))
                continue
            self.assertEqual(found, Found(fitting[0]))
            for order in fitting[:3]:
                self.assertTrue(all(is_never_worse(order, table, chance) for table in tables))
            for find in (find_by_sources, find_by_uses):
                told = find(bars)
                self.assertTrue(not told or told.order in fitting)
        self.assertGreater(min(many.values()), 40, many)

    def test_what_follows_holds_for_all_orders(self):
        chance = random.Random(3)
        for pairs, tables, wishes, sights in demands(4, 120):
            bars = joint_bars(pairs, tables, wishes, sights)
            fitting = list(orders(bars))
            for first, then in surely_ahead(bars)[:10]:
                self.assertTrue(all(order.place(first) < order.place(then) for order in fitting))
            for first, then in told_ahead(pairs, sights):
                paper = follows(bars, (then, first, None))
                self.assertIs(bool(paper), True)
                self.assertIs(shows_follows(bars, (then, first, None), paper), True)
            if len(pairs) > 2:
                bar = tuple(chance.sample(pairs, 3))
                self.assertIs(bool(follows(bars, bar)), all(Bars(pairs, bar).first_broken(order) is None for order in fitting))

    def test_alike_orders_are_as_good(self):
        chance = random.Random(5)
        many = 0
        for pairs, tables, wishes, sights in demands(6, 250):
            found = find_order(joint_bars(pairs, tables, [], sights))
            if not found:
                continue
            for order in [normal(found.order), *itertools.islice(alike_orders(found.order), 4)]:
                self.assertIsNone(alike(found.order, order))
                self.assertTrue(all(seen.is_explained(order) for seen in sights))
                self.assertTrue(all(Bars.best(table, pairs).first_broken(order) is None for table in tables))
                self.assertTrue(all(is_never_worse(order, table, chance) for table in tables))
                sides = random_sides(chance, LONG)
                self.assertEqual(order(*sides), found.order(*sides))
                self.assertEqual([worth_ranges(table, order) for table in tables], [
                    {pair: worth_ranges(table, found.order)[pair] for pair in order} for table in tables])
                many += 1
        self.assertGreater(many, 300)

    def test_an_order_learned_from_a_best_one_fills_alike(self):
        table = Table({"a": {"x": 1, "y": 1}, "b": {"y": 1, "z": 1}})
        hidden = find_order(Bars.best(table)).order
        chance = random.Random(7)
        sights = [Seen.by(hidden, *random_sides(chance, 10 ** 30)) for _ in range(20)]
        bars = joint_bars(table.pairs, [table], [], sights)
        found = find_order(bars)
        self.assertTrue(all(seen.is_explained(found.order) for seen in sights))
        self.assertIsNone(Bars.best(table).first_broken(found.order))
        self.assertLessEqual(set(told_ahead(table.pairs, sights)), set(surely_ahead(bars)))
        self.assertIs(shows_found(bars, explained(table.pairs, sights)), Bars.best(table).first_broken(explained(table.pairs, sights).order) is None)

    def test_several_tables_have_one_order_or_none(self):
        one, other = Table({"a": {"x": 2, "y": 1}}), Table({"a": {"x": 1, "y": 2}})
        pairs = joint_pairs(one, other)
        self.assertFalse(find_order(joint_bars(pairs, [one, other], [], [])))
        flat = Table.flat({"a": ["x", "y"]})
        self.assertEqual(find_order(joint_bars(pairs, [flat, other], [], [])).order, Order(("a", "y"), ("a", "x")))
        self.assertEqual(joint_pairs(one, Table({"b": {"z": 1}})), pairs + (("b", "z"),))
        self.assertEqual(len(joint_bars(pairs_of("ab", "xy"), [one], [(("b", "x"), ("a", "x"))], [])), 6)


if __name__ == "__main__":
    unittest.main()
