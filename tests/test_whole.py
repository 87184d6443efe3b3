"""What goes together over the whole program: tables, wishes, seen fillings, orders, and what is told of them."""

import itertools
import random
import unittest

from filledrow.alike import alike, alike_orders, normal
from filledrow.bars import Bars, joint_pairs
from filledrow.best import best, shortfall
from filledrow.bysides import find_by_sources, find_by_uses
from filledrow.desk import Desk
from filledrow.follows import follows, surely_ahead
from filledrow.foe import Foe, shows_game
from filledrow.ledger import Ledger
from filledrow.look_best import shows_best
from filledrow.look_follows import shows_follows
from filledrow.look_peels import shows_found, shows_stuck
from filledrow.nested import narrow_order, nested
from filledrow.offers import Coming, Offers
from filledrow.orders import Order
from filledrow.peels import Found, Stuck, find_order, orders
from filledrow.ranges import worth_ranges
from filledrow.reading import read_ledger
from filledrow.rules import Listed, Narrowest, hindsight, serve
from filledrow.seen import Seen, explained, told_ahead
from filledrow.sides import Side
from filledrow.tables import Table
from filledrow.texts import ledger_text
from tests.support import LONG, Case, pairs_of
from tests.test_nested import samples
from tests.test_rules import random_comings, random_rules


def random_table(chance, sources="abc", uses="xyz"):
    rows = {a: {x: chance.choice([0, 0, 1, 1, 2, 3]) for x in uses} for a in sources[:chance.randint(1, len(sources))]}
    return Table(rows)


def random_sides(chance, top=3):
    return [Side.of({name: chance.randint(0, top) for name in names}) for names in ("abcq", "xyzq")]


def demands(seed, many):
    """Few pairs, some tables whose scopes lie in them, some wishes, some seen fillings."""
    chance = random.Random(seed)
    for _ in range(many):
        tables = [random_table(chance) for _ in range(chance.randint(0, 2))]
        pairs = list(joint_pairs(*tables))
        if len(pairs) > 6:
            continue
        hidden = chance.sample(pairs, len(pairs))
        wishes = [(hidden[k], hidden[k + 2]) for k in range(len(hidden) - 2) if chance.random() < 0.4]
        sights = [Seen.by(Order.of(hidden), *random_sides(chance)) for _ in range(chance.randint(0, 2))]
        yield pairs, tables, wishes, sights


def joint_bars(pairs, tables, wishes, sights):
    bars = Bars(pairs)
    for table in tables:
        bars = bars | Bars.best(table, pairs)
    for first, then in wishes:
        bars = bars | Bars.ahead(pairs, first, then)
    for seen in sights:
        bars = bars | seen.bars(pairs)
    return bars


def is_never_worse(order, table, chance):
    """Whether an order fills best, for amounts 0 and 1 of the scope and some greater ones."""
    sides = [random_sides(chance, top) for top in (1, 1, 1, 1, 2, LONG)]
    return all(shortfall(order, table, *both) == 0 for both in sides)


class Together(Case):
    def test_tables_wishes_and_sights(self):
        chance = random.Random(1)
        many = {True: 0, False: 0}
        for pairs, tables, wishes, sights in demands(2, 250):
            bars = joint_bars(pairs, tables, wishes, sights)
            fitting = [order for order in (Order(*row) for row in itertools.permutations(pairs)) if all(
                Bars.best(table, pairs).first_broken(order) is None for table in tables) and all(
                order.place(first) < order.place(then) for first, then in wishes) and all(seen.is_explained(order) for seen in sights)]
            found = find_order(bars)
            self.assertEqual(list(orders(bars)), fitting)
            many[bool(fitting)] += 1
            if not fitting:
                self.assertIs(type(found), Stuck)
                self.assertIs(shows_stuck(bars, found), True)
                self.assertFalse(find_by_sources(bars) or find_by_uses(bars))
                continue
            self.assertEqual(found, Found(fitting[0]))
            for order in fitting[:3]:
                self.assertTrue(all(is_never_worse(order, table, chance) for table in tables))
            for find in (find_by_sources, find_by_uses):
                told = find(bars)
                self.assertTrue(not told or told.order in fitting)
        self.assertGreater(min(many.values()), 40, many)

    def test_what_follows_holds_for_all_orders(self):
        chance = random.Random(3)
        for pairs, tables, wishes, sights in demands(4, 120):
            bars = joint_bars(pairs, tables, wishes, sights)
            fitting = list(orders(bars))
            for first, then in surely_ahead(bars)[:10]:
                self.assertTrue(all(order.place(first) < order.place(then) for order in fitting))
            for first, then in told_ahead(pairs, sights):
                paper = follows(bars, (then, first, None))
                self.assertIs(bool(paper), True)
                self.assertIs(shows_follows(bars, (then, first, None), paper), True)
            if len(pairs) > 2:
                bar = tuple(chance.sample(pairs, 3))
                self.assertIs(bool(follows(bars, bar)), all(Bars(pairs, bar).first_broken(order) is None for order in fitting))

    def test_alike_orders_are_as_good(self):
        chance = random.Random(5)
        many = 0
        for pairs, tables, wishes, sights in demands(6, 250):
            found = find_order(joint_bars(pairs, tables, [], sights))
            if not found:
                continue
            for order in [normal(found.order), *itertools.islice(alike_orders(found.order), 4)]:
                self.assertIsNone(alike(found.order, order))
                self.assertTrue(all(seen.is_explained(order) for seen in sights))
                self.assertTrue(all(Bars.best(table, pairs).first_broken(order) is None for table in tables))
                self.assertTrue(all(is_never_worse(order, table, chance) for table in tables))
                sides = random_sides(chance, LONG)
                self.assertEqual(order(*sides), found.order(*sides))
                self.assertEqual([worth_ranges(table, order) for table in tables], [
                    {pair: worth_ranges(table, found.order)[pair] for pair in order} for table in tables])
                many += 1
        self.assertGreater(many, 300)

    def test_an_order_learned_from_a_best_one_fills_alike(self):
        table = Table({"a": {"x": 1, "y": 1}, "b": {"y": 1, "z": 1}})
        hidden = find_order(Bars.best(table)).order
        chance = random.Random(7)
        sights = [Seen.by(hidden, *random_sides(chance, 10 ** 30)) for _ in range(20)]
        bars = joint_bars(table.pairs, [table], [], sights)
        found = find_order(bars)
        self.assertTrue(all(seen.is_explained(found.order) for seen in sights))
        self.assertIsNone(Bars.best(table).first_broken(found.order))
        self.assertLessEqual(set(told_ahead(table.pairs, sights)), set(surely_ahead(bars)))
        self.assertIs(shows_found(bars, explained(table.pairs, sights)), Bars.best(table).first_broken(explained(table.pairs, sights).order) is None)

    def test_several_tables_have_one_order_or_none(self):
        one, other = Table({"a": {"x": 2, "y": 1}}), Table({"a": {"x": 1, "y": 2}})
        pairs = joint_pairs(one, other)
        self.assertFalse(find_order(joint_bars(pairs, [one, other], [], [])))
        flat = Table.flat({"a": ["x", "y"]})
        self.assertEqual(find_order(joint_bars(pairs, [flat, other], [], [])).order, Order(("a", "y"), ("a", "x")))
        self.assertEqual(joint_pairs(one, Table({"b": {"z": 1}})), pairs + (("b", "z"),))
        self.assertEqual(len(joint_bars(pairs_of("ab", "xy"), [one], [(("b", "x"), ("a", "x"))], [])), 6)


def best_tables(seed, many):
    """Tables for which there is a best order, and the least one."""
    chance = random.Random(seed)
    while many:
        table = random_table(chance)
        found = find_order(Bars.best(table))
        if found:
            many -= 1
            yield table, found.order


class BestOrders(Case):
    def test_as_good_as_the_prices(self):
        chance = random.Random(11)
        for table, order in best_tables(12, 80):
            for _ in range(4):
                sources, uses = random_sides(chance, chance.choice([1, 3, LONG]))
                paper = best(table, sources, uses)
                self.assertIs(shows_best(table, sources, uses, paper), True)
                paid = sum(sources[a] * price for a, price in paper.source_prices.items())
                paid += sum(uses[x] * price for x, price in paper.use_prices.items())
                for other in [order, normal(order), *itertools.islice(alike_orders(order), 3)]:
                    self.assertEqual(other(sources, uses).worth_in(table), paid)
                    paper.filling = other(sources, uses)
                    self.assertIs(shows_best(table, sources, uses, paper), True)

    def test_a_ledger_led_by_it_and_refilled_earns_the_best(self):
        chance, lost = random.Random(13), 0
        for table, order in best_tables(14, 120):
            ledger = Ledger(table, order)
            for _ in range(10):
                if chance.random() < 0.5:
                    ledger.credit(chance.choice(table.sources), chance.choice([1, 2, LONG]))
                else:
                    ledger.bill(chance.choice(table.uses), chance.choice([1, 2, LONG]))
            wanted = best(table, ledger.sources, ledger.uses).filling.worth_in(table)
            self.assertLessEqual(ledger.filling.worth_in(table), wanted)
            lost += ledger.gap() > 0
            self.assertEqual(ledger.gap(), wanted - ledger.filling.worth_in(table))
            found = read_ledger(ledger_text(ledger))
            found.refill()
            self.assertEqual([found.filling.worth_in(table), found.gap()], [wanted, 0])
        self.assertGreater(lost, 5)

    def test_a_desk_finds_it_and_judges_it(self):
        chance = random.Random(15)
        for table, order in best_tables(16, 60):
            desk, (sources, uses) = Desk(), random_sides(chance)
            desk.run(f"table {table}", f"sources {sources}", f"uses {uses}")
            desk.ask(f"order {desk.ask('find')}")
            worth = order(sources, uses).worth_in(table)
            self.assertEqual([desk.order, *desk.run("judge", "best", "fill")], [order, "best", f"{worth} - 0", f"{order(sources, uses)} = {worth}"])
            for pair, (low, high) in worth_ranges(table, order).items():
                self.assertEqual(desk.ask(f"range {pair[0]} {pair[1]}"), f"{low} to {'on' if high is None else high}")


class Futures(Case):
    def test_a_rule_by_lists_takes_what_the_order_use_by_use_takes(self):
        chance = random.Random(17)
        for offers in samples(18, 250):
            table = offers.table
            uses = chance.sample(table.uses, len(table.uses))
            lists = {x: chance.sample(table.takers(x), len(table.takers(x))) for x in uses}
            order = Order.of([(a, x) for x in uses for a in lists[x]])
            sources = Side.of({a: chance.choice([0, 1, 3, LONG]) for a in "abcd"})
            wants = {x: chance.choice([0, 1, 2, LONG]) for x in uses}
            told = serve(Listed(lists), Offers(table), sources, [Coming(x, wants[x], day) for day, x in enumerate(uses)])
            filling = order(sources, Side.of(wants))
            self.assertEqual({(a, x): many for x, taken in zip(uses, told.taken) for a, many in taken.items()}, dict(filling))
            self.assertEqual([told.earned, told.left], [filling.worth_in(table), sources - filling.by_source])

    def test_nested_offers_whose_sources_never_run_out(self):
        chance, many = random.Random(19), 0
        for offers in samples(20, 400):
            offers = Offers(offers.table)
            if not nested(offers) or not offers.table:
                continue
            many += 1
            order = narrow_order(offers)
            self.assertIsNone(Bars.best(offers.table).first_broken(order))
            sources = Side.of({a: chance.choice([0, 1, 3, LONG]) for a in offers})
            comings = random_comings(chance, 5, offers.table.uses)
            ledger = Ledger(offers.table, order)
            for a, amount in sources:
                ledger.credit(a, amount)
            for coming in comings:
                ledger.bill(coming.use, coming.amount)
            earned = serve(Narrowest(), offers, sources, comings).earned
            self.assertEqual([earned, ledger.gap()], [hindsight(offers, sources, comings), 0])
            self.assertEqual(earned, best(offers.table, sources, ledger.uses).filling.worth_in(offers.table))
        self.assertGreater(many, 60)

    def test_a_game_shows_no_more_than_the_best_filling(self):
        chance, many = random.Random(21), 0
        for offers in samples(22, 400):
            if nested(offers):
                continue
            game = Foe(offers).play(random_rules(chance))
            self.assertIs(shows_game(offers, game), True)
            wants = {x: sum(coming.amount for coming in game.comings if coming.use == x) for x in offers.table.uses}
            most = best(offers.table, game.sources, Side.of(wants)).filling.worth_in(offers.table)
            taken, better = [sum(amount * offers.table[a, coming.use] for coming, row in zip(game.comings, rows) for a, amount in row.items())
                             for rows in (game.taken, game.better)]
            self.assertTrue(taken < better <= hindsight(offers, game.sources, game.comings) <= most)
            many += 1
        self.assertGreater(many, 50)


if __name__ == "__main__":
    unittest.main()
