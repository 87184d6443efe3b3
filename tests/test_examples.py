"""The examples of the document, to the letter, in its order and with its names."""

import unittest

from tests.support import Case, run_examples

TABLES = """
>>> from filledrow.tables import Table
>>> table = Table({"b": {"y": 1}, "a": {"y": 2, "x": 3}})
>>> [str(table), table.pairs, table["b", "x"], ("b", "x") in table, table.scope("a"), table.takers("y")]
['x y : a 3 2 ; b 0 1', (('a', 'x'), ('a', 'y'), ('b', 'y')), 0, False, ('x', 'y'), ('a', 'b')]
>>> [str(table + table * 2), str(table & Table.flat({"a": ["x"], "c": ["x"]})), str(~table), str(table // 2), str(table % 2), str(table.without("a"))]
['x y : a 9 6 ; b 0 3', 'x y : a 1 0 ; b 0 0 ; c 0 0', 'a b : x 3 0 ; y 2 1', 'x y : a 1 1 ; b 0 0', 'x y : a 1 0 ; b 0 1', 'x y : b 0 1']
>>> [table <= table + table, table < table, str(Table.rated({"a": 3, "b": 1}, {"x": 2, "y": 0})), str(table.with_worth("c", "z", 4)), str(Table({}))]
[True, False, 'x y : a 6 0 ; b 2 0', 'x y z : a 3 2 0 ; b 0 1 0 ; c 0 0 4', ':']
>>> Table.read("x y : a 3 2 ; b 1")
raises BadText(0, 9)
>>> table * -1
raises BadAmount(-1)
"""

SIDES = """
>>> from filledrow.sides import Side
>>> one, two = Side(a=7, b=2, c=0), Side.of({"b": 5, "d": 1})
>>> [str(one + two), str(one & two), str(one | two), str(2 * one), str(one // 3), str(one % 3), one.names, one.total, one["c"], one[5]]
['a 7 b 7 d 1', 'b 2', 'a 7 b 5 d 1', 'a 14 b 4', 'a 2', 'a 1 b 2', ('a', 'b'), 9, 0, 0]
>>> [one <= one + two, one < one, list(two), "c" in one, bool(Side()), str(one.with_amount("a", 0)), Side.read("a 7 b 2") == one]
[True, False, [('b', 5), ('d', 1)], False, False, 'b 2', True]
>>> one - two
raises Lacking('b')
>>> Side.read("b 2 a 7")
raises BadText(0, 2)
"""

FILLINGS = """
>>> from filledrow.fillings import Filling
>>> from filledrow.tables import Table
>>> put = Filling({("a", "x"): 3, ("b", "x"): 1, ("b", "y"): 0, ("b", "z"): 4})
>>> [str(put), str(put.by_source), str(put.by_use), put.total, put["b", "x"], put["b", "y"], put.worth_in(Table({"a": {"x": 5}, "b": {"z": 2}}))]
['a x 3 ; b x 1 ; b z 4', 'a 3 b 5', 'x 4 z 4', 8, 1, 0, 23]
>>> [put.fits(Side(a=3, b=6), Side(x=4, z=4)), put.uses_up(Side(a=3, b=5), Side(x=4, z=4)), put.fits(Side(a=2, b=9), Side(x=9, z=9)), str(~put), str(put // 2)]
[True, True, False, 'x a 3 ; x b 1 ; z b 4', 'a x 1 ; b z 2']
>>> put - 2 * put
raises Lacking(('a', 'x'))
"""

FILLS = """
>>> from filledrow.fills import remains, ripple, shows_fill, steps
>>> from filledrow.fillings import Filling
>>> from filledrow.orders import Order
>>> from filledrow.sides import Side
>>> from filledrow.tables import Table
>>> order = Order(("a", "x"), ("a", "y"), ("b", "x"), ("b", "y"))
>>> sources, uses = Side(a=5, b=4), Side(x=3, y=4)
>>> [str(order(sources, uses)), list(steps(order, sources, uses))[1:3], [str(side) for side in remains(order, sources, uses)]]
['a x 3 ; a y 2 ; b y 2', [(('a', 'y'), 2, 0, 2), (('b', 'x'), 0, 4, 0)], ['b 2', '-']]
>>> [ripple(order, sources, uses, "a"), ripple(order, sources, uses, "b"), shows_fill(order, sources, uses, order(sources, uses))]
[(('a', 'y'), ('b', 'y')), (), True]
>>> [str(order[1:3]), order[-1], order.place(("b", "x")), str(order.moved(("b", "x"), 0)), str(~order[:2]), str(order - order[::2])]
['a y ; b x', ('b', 'y'), 2, 'b x ; a x ; a y ; b y', 'x a ; y a', 'a y ; b y']
>>> [order[::2] <= order, order[::-1] <= order, str(order.reduced([("b", "y"), ("c", "z")])), str(Order()), Order.read("b x ; a y") == Order(("b", "x"), ("a", "y"))]
[True, False, 'b y', '-', True]
>>> table = Table({"a": {"x": 9, "y": 8}, "b": {"x": 8, "y": 0}})
>>> [str(Order.by_worth(table)), str(Order.by_sources(table))]
['a x ; a y ; b x', 'a x ; a y ; b x']
>>> order.place(("x", "a"))
raises NoPair(('x', 'a'))
>>> order + order[:1]
raises BadOrder('twice')
>>> Order.read("a x b y")
raises BadText(0, 2)
"""

BARS = """
>>> from filledrow.bars import Bars, Example, example, joint_pairs
>>> from filledrow.look_bars import shows_example
>>> from filledrow.orders import Order
>>> from filledrow.tables import Table
>>> crossed = Table({"a": {"x": 1, "y": 1}, "b": {"y": 1, "z": 1}})
>>> best = Bars.best(crossed)
>>> list(best)
[(('a', 'y'), ('a', 'x'), ('b', 'y')), (('b', 'y'), ('a', 'y'), ('b', 'z'))]
>>> good, bad = Order.read("a x ; b z ; a y ; b y"), Order.read("a x ; b y ; a y ; b z")
>>> [best.first_broken(good), best.first_broken(bad), best.holding(("a", "y"), [("a", "y"), ("b", "y")])]
[None, (('b', 'y'), ('a', 'y'), ('b', 'z')), ()]
>>> found = example(crossed, (("b", "y"), ("a", "y"), ("b", "z")))
>>> [str(found.sources), str(found.uses), str(found.worse), str(found.better), shows_example(crossed, bad, found), shows_example(crossed, good, found)]
['a 1 b 1', 'y 1 z 1', 'b y 1', 'a y 1 ; b z 1', True, False]
>>> square = Table({"a": {"x": 9, "y": 8}, "b": {"x": 8, "y": 1}})
>>> [len(Bars.best(square)), len(Bars.used_up(square)), list(Bars.used_up(square))[0]]
[6, 2, (('a', 'x'), ('a', 'y'), ('b', 'x'))]
>>> [list(Bars.ahead(crossed.pairs, ("b", "z"), ("a", "x"))), str(Bars.ahead([("a", "x"), ("b", "x")], ("b", "x"), ("a", "x")))]
[[(('a', 'x'), ('b', 'z'), None)], 'a x b x ; a x b x none']
>>> Bars(crossed.pairs, (("a", "x"), ("a", "x"), None))
raises BadBars(0)
"""

PEELS = """
>>> from filledrow.peels import Found, Stuck, count_orders, find_order, firsts, free_pairs, lasts, narrowed, orders
>>> from filledrow.look_peels import shows_found, shows_stuck
>>> [free_pairs(best, crossed.pairs), str(find_order(best).order), count_orders(best), firsts(best), lasts(best)]
[(('a', 'x'), ('b', 'z')), 'a x ; a y ; b y ; b z', 8, (('a', 'x'), ('b', 'z')), (('a', 'x'), ('a', 'y'), ('b', 'y'), ('b', 'z'))]
>>> ring = Table({"a": {"x": 1, "y": 1}, "b": {"y": 1, "z": 1}, "c": {"x": 1, "z": 1}})
>>> stuck = find_order(Bars.best(ring))
>>> [bool(stuck), len(stuck.held), stuck.held[0], count_orders(Bars.best(ring)), shows_stuck(Bars.best(ring), stuck)]
[False, 6, (('a', 'x'), (('a', 'x'), ('a', 'y'), ('c', 'x'))), 0, True]
>>> [str(order) for order in orders(Bars.used_up(square))]
['a y ; a x ; b x ; b y', 'a y ; a x ; b y ; b x', 'a y ; b x ; a x ; b y', 'a y ; b x ; b y ; a x', 'a y ; b y ; a x ; b x', 'a y ; b y ; b x ; a x', 'b x ; a x ; a y ; b y', 'b x ; a x ; b y ; a y', 'b x ; a y ; a x ; b y', 'b x ; a y ; b y ; a x', 'b x ; b y ; a x ; a y', 'b x ; b y ; a y ; a x']
>>> wished = best | Bars.ahead(crossed.pairs, ("b", "y"), ("a", "x"))
>>> [str(find_order(wished).order), find_order(wished | Bars.ahead(crossed.pairs, ("a", "y"), ("b", "z"))).held[0]]
['b z ; b y ; a x ; a y', (('a', 'x'), (('a', 'x'), ('b', 'y'), None))]
>>> [shows_found(best, Found(good)), shows_found(best, Found(bad)), find_order(Bars.best(square)) == Found(None), len(narrowed(Bars.best(square)).pairs)]
[True, False, False, 4]
"""

FOLLOWS = """
>>> from filledrow.bars import Bars
>>> from filledrow.follows import Fails, Follows, closed, follows, last_place, same_orders, surely_ahead, thinned
>>> from filledrow.look_follows import shows_follows
>>> a, b, c = ("a", "x"), ("a", "y"), ("b", "x")
>>> bars = Bars([a, b, c], (c, a, b), (b, a, None))
>>> [bool(follows(bars, (c, a, None))), follows(bars, (c, b, None)).order == Order(a, c, b), surely_ahead(bars), last_place(bars, c), last_place(bars, a)]
[True, True, ((('a', 'x'), ('a', 'y')), (('a', 'x'), ('b', 'x'))), 2, 0]
>>> [len(thinned(Bars([a, b, c], (c, a, b), (b, a, None), (c, a, None)))), same_orders(bars, Bars([a, b, c], (b, a, None), (c, a, None)))]
[2, None]
"""

BEST = """
>>> from filledrow.best import Optimum, best, best_used_up, extra, shortfall
>>> from filledrow.look_best import shows_best, shows_used_up
>>> table = Table({"a": {"x": 9, "y": 8}, "b": {"x": 8, "y": 1}})
>>> one, other = Side(a=1, b=1), Side(x=1, y=1)
>>> found = best(table, one, other)
>>> [found.filling == Filling({("a", "y"): 1, ("b", "x"): 1}), found.filling.worth_in(table), shows_best(table, one, other, found)]
[True, 16, True]
>>> shows_best(table, one, other, Optimum(found.filling, {"a": 8, "b": 7}, {"x": 1, "y": 0}))
True
>>> [shortfall(Order.by_worth(table), table, one, other), extra(table, one, other, "a"), extra(table, one, other, "x", False)]
[6, 1, 1]
>>> [best_used_up(table, one, other).filling == found.filling, best(table, Side(a=5), other).filling.total]
[True, 2]
>>> best_used_up(table, one, Side(x=1))
raises BadSide('sums')
"""

ALIKE = """
>>> from filledrow.alike import Apart, alike, alike_orders, count_alike, exchanges, normal, shows_apart
>>> from filledrow.orders import Order
>>> one = Order(("b", "y"), ("a", "x"), ("a", "y"), ("b", "x"))
>>> [normal(one) == Order(("a", "x"), ("b", "y"), ("a", "y"), ("b", "x")), count_alike(one), [order == one for order in alike_orders(one)], alike(one, normal(one))]
[True, 4, [False, False, True, False], None]
>>> other = Order(("a", "x"), ("a", "y"), ("b", "y"), ("b", "x"))
>>> apart = alike(one, other)
>>> [apart == Apart(("b", "y"), ("a", "y"), Side(a=1, b=1), Side(y=1)), shows_apart(one, other, apart), str(one(apart.sources, apart.uses)), str(other(apart.sources, apart.uses))]
[True, True, 'b y 1', 'a y 1']
>>> [exchanges(one, normal(one)), exchanges(one, one)]
[(0,), ()]
"""

FOE = """
>>> from filledrow.foe import Foe, Game, shows_game
>>> from filledrow.nested import Crossing, Dearer, Nested, TwoWorths, narrow_order, nested
>>> from filledrow.offers import Coming, Offers
>>> from filledrow.rules import By, Dearest, Listed, Narrowest, Rule, Soonest, first_loss, hindsight, serve
>>> easy = Offers(Table({"s": {"x": 3}, "w": {"x": 2, "y": 2}}))
>>> hard = Offers(Table({"s": {"x": 3}, "w": {"x": 4, "y": 4}}))
>>> [nested(easy) == Nested({"x": ("s", "w"), "y": ("w",)}), nested(hard) == Dearer("s", "w", "x", ("y", 0)), str(narrow_order(easy)), bool(nested(hard))]
[True, True, 's x ; w x ; w y', False]
>>> nested(Offers(Table({}, ["x"]))) == Nested({})
True
>>> crossed = Offers(Table({"a": {"x": 1}, "b": {"x": 1, "y": 1}}), b=3)
>>> [nested(crossed) == Crossing("a", "b", "x", ("x", 4), ("y", 0)), crossed.servers("x", 4), str(crossed), crossed.no_wider("a", "b"), nested(crossed.ended("a", 3)).lists["x"]]
[True, ('a',), 'x y : a 1 0 ; b 1 1 | b 3', False, ('a', 'b')]
>>> comings = [Coming("x", 2), Coming("y", 1, 5)]
>>> told = serve(Narrowest(), easy, Side(s=1, w=2), comings)
>>> [told.taken, str(told.left), told.earned, hindsight(easy, Side(s=1, w=2), comings), first_loss(Dearest(), hard, Side(s=1, w=1), [Coming("x", 1), Coming("y", 1)])]
[({'s': 1, 'w': 1}, {'w': 1}), '-', 7, 7, 1]
>>> foe = Foe(hard)
>>> [foe.play(Dearest()).taken, foe.play(Dearest()).better, foe.play(Narrowest()).taken, foe.play(Narrowest()).better, foe.play(By(lambda use, amount, day, left, offers: {})).better]
[({'w': 1}, {}), ({'s': 1}, {'w': 1}), ({'s': 1},), ({'w': 1},), ({'w': 1},)]
>>> [shows_game(hard, foe.play(Soonest())), str(Listed({"x": ["w", "s"]}) | Narrowest()), Rule.read("dearest") == Dearest()]
[True, 'listed ; x w s | narrowest', True]
>>> Foe(easy)
raises IsNested()
>>> serve(By(lambda use, amount, day, left, offers: {"w": 9}), easy, Side(s=1, w=2), comings)
raises BadRule(0)
"""

SEEN = """
>>> from filledrow.fillings import Filling
>>> from filledrow.orders import Order
>>> from filledrow.seen import Asking, Seen, ask_next, explained, told_ahead
>>> from filledrow.sides import Side
>>> four = (("a", "x"), ("a", "y"), ("b", "x"), ("b", "y"))
>>> seen = Seen(Side(a=1, b=1), Side(x=1, y=1), Filling({("a", "y"): 1, ("b", "x"): 1}))
>>> [str(seen), seen.kept, seen.is_explained(Order(*four)), explained(four, [seen]).order == Order(("a", "y"), ("a", "x"), ("b", "x"), ("b", "y"))]
['a 1 b 1 / x 1 y 1 / a y 1 ; b x 1', (('a', 'y'), ('b', 'x')), False, True]
>>> other = Seen.by(Order(*four), Side(a=1, b=1), Side(x=1, y=1))
>>> [bool(explained(four, [seen, other])), told_ahead(four, [seen]), ask_next(four, [seen]) == Asking(Side(a=1), Side(x=1, y=1), ("a", "x"), ("a", "y"))]
[False, (), True]
>>> told_ahead(four, [Seen(Side(a=1), Side(x=1, y=1), Filling({("a", "y"): 1}))])
((('a', 'y'), ('a', 'x')),)
>>> Seen(Side(a=1), Side(x=1), Filling({("a", "x"): 2}))
raises BadSeen('fit')
"""

RANGES = """
>>> from filledrow.ranges import raised, stays_best, worth_range, worth_ranges
>>> flat = Table.flat({"a": ["x", "y"], "b": ["y", "z"]})
>>> order = Order(("a", "x"), ("b", "z"), ("a", "y"), ("b", "y"))
>>> [worth_range(flat, order, ("a", "x")), worth_range(flat, order, ("a", "y")), worth_range(flat, order, ("b", "y"))]
[(1, None), (1, 1), (1, 1)]
>>> [worth_range(flat, order[::-1], ("a", "x")), stays_best(flat, order, ("b", "z"), 5), list(worth_ranges(flat, order)) == list(order)]
[None, True, True]
>>> wide = raised(table, {"a": 2}, {"y": -1})
>>> [wide["a", "x"], wide["b", "y"], Bars.used_up(wide) == Bars.used_up(table)]
[11, 0, True]
>>> worth_range(flat, order[1:], ("a", "y"))
raises BadOrder('scope')
"""

BYSIDES = """
>>> from filledrow.bysides import BySides, StuckSides, find_by_sources, find_by_uses
>>> from filledrow.look_bysides import shows_by_sources, shows_by_uses, shows_stuck_sources, shows_stuck_uses
>>> found = find_by_sources(Bars.best(flat))
>>> [found.names, list(found.order), shows_by_sources(Bars.best(flat), found), find_by_uses(Bars.best(flat)).names]
[('a', 'b'), [('a', 'x'), ('a', 'y'), ('b', 'y'), ('b', 'z')], True, ('x', 'y', 'z')]
>>> cross = Bars.best(Table({"a": {"x": 1, "y": 2}, "b": {"x": 2, "y": 1}}))
>>> stuck = find_by_sources(cross)
>>> [bool(stuck), [(source, [pair for pair, bar in some]) for source, some in stuck.held], bool(find_order(cross))]
[False, [('a', [('a', 'x')]), ('b', [('b', 'y')])], True]
>>> [shows_stuck_sources(cross, stuck), shows_stuck_sources(cross, StuckSides(stuck.held[:1]))]
[True, False]
"""

LEDGER = """
>>> from filledrow.ledger import Ledger
>>> table = Table({"a": {"x": 1, "y": 1}, "b": {"y": 1, "z": 1}})
>>> ledger = Ledger(table, Order(("a", "x"), ("b", "z"), ("a", "y"), ("b", "y")))
>>> [str(ledger.credit("a", 5)), str(ledger.credit("b", 2)), str(ledger.bill("y", 6)), str(ledger.bill("x", 3)), str(ledger.free), str(ledger.open_now)]
['-', '-', 'a y 5 ; b y 1', '-', 'b 1', 'x 3']
>>> [str(ledger.refilled()), ledger.gap(), [str(one) for one in ledger.refill()], str(ledger.open_now), len(ledger), ledger.undo(), ledger["a", "y"]]
['a x 3 ; a y 2 ; b y 2', 1, ['a y 3', 'a x 3 ; b y 1'], 'y 2', 5, 'refill', 5]
>>> [str(ledger.cancel("y", 2)), str(ledger.filling), ledger.lapse("b"), list(ledger)]
['a y 1 ; b y 1', 'a x 1 ; a y 4', 2, ['credit', 'credit', 'bill', 'bill', 'cancel', 'lapse']]
>>> ledger.cancel("y", 7)
raises Lacking('y')
>>> ledger.credit("x", 1)
raises NoName('x')
"""

# A row of the text is parted at a newline, which a text in three quotes has to write with two strokes.
TEXTS = """
>>> from filledrow.reading import read_ledger
>>> from filledrow.texts import ledger_text
>>> lines = ledger_text(ledger).split("\\n")
>>> [len(lines), lines[2:], read_ledger(ledger_text(ledger)) == ledger]
[5, ['sources a 5', 'uses x 3 y 4', 'filling a x 1 ; a y 4'], True]
"""

DESK = """
>>> from filledrow.desk import Desk
>>> desk = Desk()
>>> desk.run("table x y z : a 1 1 0 ; b 0 1 1", "sources a 1 b 1", "uses y 1 z 1", "order a x ; b y ; a y ; b z", "fill", "best", "judge", "find")
['ok', 'ok', 'ok', 'ok', 'b y 1 = 1', '2 - 1', 'b y a y b z', 'a x ; a y ; b y ; b z']
>>> desk.run("order a x ; b z ; a y ; b y", "fill", "judge", "alike a x ; a y ; b z ; b y", "nested", "undo", "fill")
['ok', 'a y 1 ; b z 1 = 2', 'best', 'yes', 'crossing', 'ok', 'b y 1 = 1']
>>> desk.ask("order a x ; b")
raises BadLine(5)
"""


class Examples(Case):
    """Each section goes on with the names of those ahead of it."""

    def test_examples(self):
        space = {}
        for text in (TABLES, SIDES, FILLINGS, FILLS, BARS, PEELS, FOLLOWS, BEST, ALIKE, FOE, SEEN, RANGES, BYSIDES, LEDGER, TEXTS, DESK):
            run_examples(self, text, space)


if __name__ == "__main__":
    unittest.main()
