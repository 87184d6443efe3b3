"""Seen fillings: which orders explain them, what they tell, what to ask next, against all orders of few pairs."""

import itertools
import random
import unittest

from filledrow.alike import alike
from filledrow.bars import Bars
from filledrow.errors import BadBars, BadOrder, BadSeen, BadText, TooMany
from filledrow.fillings import Filling
from filledrow.look_peels import shows_found, shows_stuck
from filledrow.orders import Order
from filledrow.peels import Found, Stuck
from filledrow.seen import Asking, Seen, ask_next, explained, shows_asking, told_ahead
from filledrow.sides import Side
from tests.support import (ANY, FOUR, LONG, NO_ROWS, NO_STRINGS, SIX_BY_SIX, THIRTY_SEVEN, Case, others, pairs_of)
from tests.test_rules import split
from tests.test_texts import JUNK, changed, filling_texts, heads, side_texts

SEEN = Seen(Side(a=1, b=1), Side(x=1, y=1), Filling({("a", "y"): 1, ("b", "x"): 1}))
NOTHING = Seen(Side(), Side(), Filling({}))


def all_orders(pairs):
    return [Order(*row) for row in itertools.permutations(sorted(pairs))]


def meeting(pairs):
    """All two unlike pairs with a common source or use, ascending."""
    return [(p, q) for p in sorted(pairs) for q in sorted(pairs) if p != q and (p[0] == q[0] or p[1] == q[1])]


def is_ahead(order, first, then):
    return order.place(first) < order.place(then)


def random_side(chance, names, top=3):
    return Side.of({name: chance.randint(0, top) for name in names})


def random_filling(chance, pairs, sources, uses):
    """A filling that fits; not always one by an order."""
    left, open_now, put = dict(sources), dict(uses), {}
    for a, x in chance.sample(pairs, len(pairs)):
        many = min(left.get(a, 0), open_now.get(x, 0))
        put[a, x] = many if chance.random() < 0.8 else chance.randint(0, many)
        left[a], open_now[x] = left.get(a, 0) - put[a, x], open_now.get(x, 0) - put[a, x]
    return Filling(put)


def samples(seed, many, most=3):
    """Few pairs, and some seen fillings of them, of which perhaps no order explains all."""
    chance = random.Random(seed)
    for _ in range(many):
        pairs = chance.sample(pairs_of("abc", "xyz"), chance.randint(0, 5))
        orders, hidden = [], chance.sample(pairs, len(pairs))
        for _ in range(chance.randint(0, most)):
            sources, uses = random_side(chance, "abcq"), random_side(chance, "xyzq")
            if chance.random() < 0.6:
                orders.append(Seen.by(Order.of(hidden), sources, uses))
            else:
                orders.append(Seen(sources, uses, random_filling(chance, pairs, sources, uses)))
        yield pairs, orders


class Making(Case):
    def test_attributes(self):
        sources, uses, filling = Side(a=3, q=LONG), Side(x=2, y=1), Filling({("b", "x"): 0, ("a", "y"): 1, ("a", "x"): 2})
        for seen in (Seen(sources, uses, filling), Seen(filling=filling, uses=uses, sources=sources)):
            self.assertEqual([seen.sources, seen.uses, seen.filling, seen.kept], [sources, uses, filling, (("a", "x"), ("a", "y"))])
        self.assertEqual([NOTHING.kept, bool(NOTHING)], [(), True])

    def test_wrong(self):
        for value in others(Side):
            self.told(BadSeen("sources"), Seen, value, value, 5)
            self.told(BadSeen("uses"), Seen, Side(), value, 5)
        for value in others(Filling):
            self.told(BadSeen("filling"), Seen, Side(), Side(), value)
        for sources, uses in [(Side(a=1), Side(x=2)), (Side(a=2), Side(x=1)), (Side(), Side(x=2)), (Side(b=2), Side(x=2)), (Side(a=2), Side(y=2))]:
            self.told(BadSeen("fit"), Seen, sources, uses, Filling({("a", "x"): 2}))

    def test_equal(self):
        seen = Seen(Side(a=2), Side(x=2), Filling({("a", "x"): 1}))
        self.assertEqual(seen, Seen(Side(a=2, b=0), Side(x=2), Filling({("a", "x"): 1, ("b", "x"): 0})))
        for other in [Seen(Side(a=3), Side(x=2), seen.filling), Seen(Side(a=2), Side(x=3), seen.filling), Seen(Side(a=2), Side(x=2), 2 * seen.filling), *ANY]:
            self.assertIs(seen == other, False)

    def test_by(self):
        order = Order(*FOUR)
        for sources, uses in [(Side(a=5, b=4), Side(x=3, y=4)), (Side(), Side(x=1)), (Side(q=3), Side(z=LONG))]:
            self.assertEqual(Seen.by(order, sources, uses), Seen(sources, uses, order(sources, uses)))
            self.assertEqual(Seen.by(order=order, sources=sources, uses=uses), Seen(sources, uses, order(sources, uses)))
        for value in others(Order):
            self.told(BadOrder("order"), Seen.by, value, 5, 5)
        for value in others(Side):
            self.told(BadSeen("sources"), Seen.by, order, value, value)
            self.told(BadSeen("uses"), Seen.by, order, Side(), value)


class Explaining(Case):
    def test_bars_tell_it(self):
        told = {True: 0, False: 0}
        for pairs, seens in samples(1, 400, most=1):
            for seen, order in itertools.product(seens, all_orders(pairs)[::3]):
                wanted = order(seen.sources, seen.uses) == seen.filling
                self.assertIs(seen.is_explained(order), wanted)
                self.assertIs(seen.bars(pairs).first_broken(order) is None, wanted)
                told[wanted] += 1
        self.assertGreater(min(told.values()), 500)

    def test_bars(self):
        self.assertEqual(SEEN.bars(FOUR), Bars.seen(FOUR, SEEN.sources, SEEN.uses, SEEN.filling))
        self.assertEqual(SEEN.bars(pairs=list(FOUR)[::-1]).pairs, FOUR)
        # a x holds back nothing but itself behind a y or b x; nothing is said of a y and b x.
        self.assertEqual(list(SEEN.bars(FOUR)), [(("a", "x"), ("a", "y"), ("b", "x")), (("b", "y"), ("a", "y"), ("b", "x"))])
        self.assertEqual(list(Seen(Side(a=1), Side(x=1), Filling({})).bars([("a", "x"), ("a", "y")])), [(("a", "x"), None, None)])
        self.assertEqual(list(Seen(Side(a=2), Side(x=1, y=1), Filling({("a", "x"): 1})).bars([("a", "x"), ("a", "y")])), [
            (("a", "y"), ("a", "x"), None), (("a", "y"), None, None)])
        for value in NO_ROWS:
            self.told(BadBars("pairs"), SEEN.bars, value)
        self.told(TooMany("pairs", 36), SEEN.bars, THIRTY_SEVEN)
        self.told(BadSeen("pairs"), SEEN.bars, FOUR[:2])

    def test_is_explained_by_other_values(self):
        for value in ANY:
            self.assertIs(SEEN.is_explained(value), False)
            self.assertIs(NOTHING.is_explained(value), isinstance(value, Order))
        self.assertIs(SEEN.is_explained(order=Order(("b", "x"), ("a", "y"))), True)
        self.assertIs(SEEN.is_explained(Order(("b", "x"))), False)

    def test_explained_by_chance(self):
        many = {True: 0, False: 0}
        for pairs, seens in samples(2, 400):
            fitting = [order for order in all_orders(pairs) if all(seen.is_explained(order) for seen in seens)]
            found = explained(pairs, seens)
            bars = Bars.of(pairs, [bar for seen in seens for bar in seen.bars(pairs)])
            if fitting:
                self.assertEqual([found, type(found)], [Found(fitting[0]), Found])
                self.assertIs(shows_found(bars, found), True)
            else:
                self.assertIs(type(found), Stuck)
                self.assertIs(shows_stuck(bars, found), True)
            many[bool(fitting)] += 1
            self.assertEqual(explained(pairs=tuple(pairs), seens=tuple(seens)), found)
        self.assertGreater(min(many.values()), 20, many)

    def test_without_any(self):
        self.assertEqual(explained(FOUR[::-1], []), Found(Order(*FOUR)))
        self.assertEqual([explained([], ()), explained([], [NOTHING])], [Found(Order())] * 2)
        self.assertEqual([told_ahead(FOUR, []), told_ahead([], []), ask_next([], [])], [(), (), None])
        self.assertEqual(explained(SIX_BY_SIX, []), Found(Order(*SIX_BY_SIX)))


class Telling(Case):
    def test_by_chance(self):
        for pairs, seens in samples(3, 300):
            fitting = [order for order in all_orders(pairs) if all(seen.is_explained(order) for seen in seens)]
            wanted = tuple(two for two in meeting(pairs) if all(is_ahead(order, *two) for order in fitting))
            self.assertEqual(told_ahead(pairs=pairs, seens=seens), wanted)

    def test_if_there_is_no_such_order(self):
        seens = [Seen.by(Order(*FOUR), Side(a=1, b=1), Side(x=1, y=1)), SEEN]
        self.assertEqual(told_ahead(FOUR, seens), tuple(meeting(FOUR)))
        self.assertIsNone(ask_next(FOUR, seens))


class AskingNext(Case):
    def test_by_chance(self):
        many = {True: 0, False: 0}
        for pairs, seens in samples(4, 300):
            fitting = [order for order in all_orders(pairs) if all(seen.is_explained(order) for seen in seens)]
            unknown = [(p, q) for p, q in meeting(pairs) if p < q and len({is_ahead(order, p, q) for order in fitting}) > 1]
            found = ask_next(pairs=pairs, seens=seens)
            if not unknown:
                self.assertIsNone(found)
                self.assertTrue(all(alike(order, fitting[0]) is None for order in fitting))
            else:
                p, q = unknown[0]
                self.assertEqual(found, Asking(Side.of({p[0]: 1, q[0]: 1}), Side.of({p[1]: 1, q[1]: 1}), p, q))
                one, other = [[order for order in fitting if is_ahead(order, *two)][0] for two in ((p, q), (q, p))]
                self.assertEqual(len({str(order(found.sources, found.uses)) for order in fitting}), 2)
                for two in ((one, other), (other, one)):
                    self.assertIs(shows_asking(pairs, seens, found, *two), True)
                self.assertIs(shows_asking(pairs, seens, found, one, one), False)
            many[bool(unknown)] += 1
        self.assertGreater(min(many.values()), 50, many)

    def test_asking_on(self):
        chance = random.Random(5)
        for many in [*range(0, 10)] * 3 + [36]:
            pairs = chance.sample(SIX_BY_SIX if many > 9 else pairs_of("abc", "xyz"), many)
            hidden, seens = Order.of(chance.sample(pairs, many)), []
            asked = ask_next(pairs, seens)
            while asked is not None:
                seens.append(Seen.by(hidden, asked.sources, asked.uses))
                known = told_ahead(pairs, seens)
                self.assertTrue((asked.first, asked.then) in known or (asked.then, asked.first) in known)
                asked = ask_next(pairs, seens)
            found = explained(pairs, seens)
            self.assertIs(type(found), Found)
            self.assertIsNone(alike(found.order, hidden))
            self.assertLessEqual(len(seens), 180)

    def test_great_amounts_are_seen_too(self):
        chance = random.Random(6)
        hidden = Order.of(chance.sample(SIX_BY_SIX, 36))
        seens = [Seen.by(hidden, Side.of({a: chance.randint(0, 10 ** 30) for a in "abcdef"}), Side.of({x: chance.randint(0, 10 ** 30) for x in "uvwxyz"}))
                 for _ in range(12)]
        found = explained(SIX_BY_SIX, seens)
        self.assertTrue(all(seen.is_explained(found.order) for seen in seens))
        self.assertTrue(all(is_ahead(hidden, *two) and is_ahead(found.order, *two) for two in told_ahead(SIX_BY_SIX, seens)))
        asked = ask_next(SIX_BY_SIX, seens)
        told = told_ahead(SIX_BY_SIX, seens)
        self.assertTrue(asked is None or not {(asked.first, asked.then), (asked.then, asked.first)} & set(told))

    def test_asking(self):
        self.is_paper(Asking, ["sources", "uses", "first", "then"], True)


class Looking(Case):
    def test_all_askings(self):
        told = {True: 0, False: 0}
        for pairs, seens in samples(7, 60, most=2):
            orders = all_orders(pairs)[::7]
            for one, other in itertools.product(orders, repeat=2):
                for sources, uses in [(Side(a=1, b=1, c=1), Side(x=1, y=1, z=1)), (Side(a=1, b=2), Side(x=2, y=1)), (Side(a=1), Side(x=1, y=1))]:
                    here, there = one(sources, uses), other(sources, uses)
                    unlike = sorted(pair for pair in pairs if here[pair] != there[pair])[:2]
                    right = unlike and all(seen.is_explained(order) for seen in seens for order in (one, other))
                    first, then = unlike or (("a", "x"), ("a", "y"))
                    self.assertIs(shows_asking(pairs, seens, Asking(sources, uses, first, then), one, other), bool(right))
                    self.assertIs(shows_asking(pairs, seens, Asking(sources, uses, then, first), one, other), False)
                    told[bool(right)] += 1
        self.assertGreater(min(told.values()), 100)

    def test_bent(self):
        paper, one, other = ask_next(FOUR, [SEEN]), Order(("a", "y"), ("b", "x"), ("a", "x"), ("b", "y")), Order(("b", "x"), ("a", "x"), ("a", "y"), ("b", "y"))
        look = lambda *told: shows_asking(FOUR, [SEEN], *told)
        self.assertIs(shows_asking(pairs=FOUR, seens=[SEEN], paper=paper, one=one, other=other), True)
        for value in ANY:
            self.assertIs(look(value, one, other), False)
            self.assertIs(look(paper, value, other), False)
            self.assertIs(look(paper, one, value), False)
            if not isinstance(value, Side):
                self.assertIs(look(Asking(value, paper.uses, paper.first, paper.then), one, other), False)
                self.assertIs(look(Asking(paper.sources, value, paper.first, paper.then), one, other), False)
            if value != ("a", "x"):
                self.assertIs(look(Asking(paper.sources, paper.uses, value, paper.then), one, other), False)
            self.assertIs(look(Asking(paper.sources, paper.uses, paper.first, value), one, other), False)
        for order in [one[:3], one + Order(("c", "x")), Order(*FOUR), Order()]:
            self.assertIs(look(paper, order, other), False)
            self.assertIs(look(paper, one, order), False)
        self.assertIs(look(Asking(3 * paper.sources, Side(x=1, y=3), ("a", "x"), ("a", "y")), one, other), True)
        self.assertIs(look(Asking(Side(), Side(), ("a", "x"), ("a", "y")), one, other), False)


class Wrong(Case):
    def calls(self):
        for call in (explained, told_ahead, ask_next):
            yield call
        yield lambda pairs, seens: shows_asking(pairs, seens, 1, 2, 3)

    def test_pairs(self):
        for call in self.calls():
            for value in [*NO_ROWS, [1], [("a", "x"), ("a", "x")], [("a", "x"), ["a", "y"]], [[]]]:
                self.told(BadBars("pairs"), call, value, 5)
            self.told(TooMany("pairs", 36), call, THIRTY_SEVEN, 5)

    def test_seens(self):
        for call in self.calls():
            for value in NO_ROWS:
                self.told(BadSeen(None), call, FOUR, value)
            for value in others(Seen):
                self.told(BadSeen(0), call, FOUR, [value, 5])
                self.told(BadSeen(2), call, FOUR, (SEEN, NOTHING, value, Seen(Side(c=1), Side(x=1), Filling({("c", "x"): 1}))))
            strange = Seen(Side(a=1, c=1), Side(x=2), Filling({("a", "x"): 1, ("c", "x"): 1}))
            self.told(BadSeen(1), call, FOUR, [SEEN, strange, 5])
            self.told(BadSeen(0), call, [], [SEEN])


SIDES, FILLINGS = set(side_texts()), set(filling_texts())
HEADS = [heads(SIDES), heads(SIDES), heads(FILLINGS)]


def can_stand(words):
    """Whether all words can stand behind those ahead of them."""
    rows = split(words, "/")
    if len(rows) > 3 or not all(tuple(row) in SIDES for row in rows[:-1]):
        return False
    return not rows[-1] or tuple(rows[-1]) in HEADS[len(rows) - 1]


def is_text(words):
    rows = split(words, "/")
    return len(rows) == 3 and can_stand(words) and tuple(rows[2]) in FILLINGS


class Texts(Case):
    def test_read(self):
        for pairs, seens in samples(8, 60):
            for seen in seens:
                self.assertEqual(Seen.read(text=str(seen)), seen)
        seen = Seen(Side(a=10 ** 5000), Side(x=1), Filling({}))
        self.assertEqual([str(NOTHING), Seen.read("- / - / -"), Seen.read(str(seen))], ["- / - / -", NOTHING, seen])

    def reads(self, text):
        if not Filling.read(text.rpartition(" / ")[2]).fits(*[Side.read(part) for part in text.split(" / ")[:2]]):
            self.told(BadSeen("fit"), Seen.read, text)
        else:
            self.assertEqual(str(Seen.read(text)), text)

    def test_changed_texts(self):
        for start in ["- / - / -", "a 1 / a 1 / -", "a 1 b 1 / a 10 / a a 1", "a 1 / - / a a 1 ; b a 1"]:
            for text in changed(start, [*JUNK, "/", "a", "b", "1"]):
                told = text.split(" ")
                wrong = [at for at in range(len(told)) if not can_stand(told[:at + 1])]
                if wrong:
                    self.told(BadText(0, wrong[0]), Seen.read, text)
                elif not is_text(told):
                    self.told(BadText(0, len(told)), Seen.read, text)
                else:
                    self.reads(text)

    def test_words(self):
        for text, word in [
                ("", 0), ("-", 1), ("- /", 2), ("- / -", 3), ("- / - /", 4), ("- / - / - /", 5), ("a 1", 2), ("a 1 b", 3), ("a 1 a 1 / - / -", 2),
                ("a 1 / x 0 / -", 4), ("a 1 / x 1 / a x", 8), ("a 1 / x 1 / a x 1 ; a x 1", 11), ("a 1 /x 1 / -", 2), ("/ - / -", 0), ("a / - / -", 1),
                ("a 1 - / - / -", 2), ("- a / - / -", 1), ("b 1 a 1 / - / -", 2), ("a 1 / x 1 / a x 2 /", 9), ("a 1 / x 1 x 1", 5)]:
            self.told(BadText(0, word), Seen.read, text)
        self.told(BadSeen("fit"), Seen.read, "a 1 / x 2 / a x 2")
        self.told(BadText(0, 9), Seen.read, "a 1 / x 2 / a x 2 ")

    def test_no_strings(self):
        for value in NO_STRINGS:
            self.told(BadText(0, 0), Seen.read, value)


if __name__ == "__main__":
    unittest.main()
