"""Fillings by orders against a plain walk, and what changes with one unit more."""

import random
import unittest

from filledrow.errors import BadName, BadOrder, BadSide
from filledrow.fillings import Filling
from filledrow.fills import remains, ripple, shows_fill, steps
from filledrow.orders import Order
from filledrow.sides import Side
from tests.support import ANY, FOUR, LONG, NO_NAMES, Case, others, pairs_of

AX, AY, BX, BY = FOUR
ORDER = Order(AX, AY, BX, BY)


def plain_walk(order, sources, uses):
    """The steps of a filling, told another way: what is left is what there was less all that was taken."""
    rows = []
    for source, use in order:
        given = sum(taken for (one, _), taken, _, _ in rows if one == source)
        got = sum(taken for (_, one), taken, _, _ in rows if one == use)
        has, wants = sources[source] - given, uses[use] - got
        taken = has if has < wants else wants
        rows.append(((source, use), taken, has - taken, wants - taken))
    return rows


def samples():
    """Orders with amounts, small and great, some of them 0, some names without, some names on both sides."""
    chance = random.Random(7)
    for _ in range(300):
        pairs = list(pairs_of("abcx", "axyz"))
        chance.shuffle(pairs)
        most = chance.choice([1, 2, 5, LONG])
        sources = Side(**{name: chance.randint(0, most) for name in chance.sample("abcxq", 4)})
        uses = Side(**{name: chance.randint(0, most) for name in chance.sample("axyzq", 4)})
        yield Order.of(pairs[:chance.randint(0, 16)]), sources, uses


class Steps(Case):
    def test_plain_walk(self):
        for order, sources, uses in samples():
            rows = plain_walk(order, sources, uses)
            self.assertEqual(list(steps(order, sources, uses)), rows)
            self.assertEqual(order(sources, uses), Filling({row[0]: row[1] for row in rows}))
            filling = order(sources, uses)
            self.assertEqual(remains(order, sources, uses), (sources - filling.by_source, uses - filling.by_use))
            self.assertTrue(filling.fits(sources, uses))
            self.assertEqual((~order)(uses, sources), ~filling)
            self.assertEqual(order(3 * sources, 3 * uses), 3 * filling)

    def test_behind_each_pair_one_side_has_nothing_left(self):
        for order, sources, uses in samples():
            for _, _, left, open_now in steps(order, sources, uses):
                self.assertEqual(min(left, open_now), 0)

    def test_great_amounts(self):
        self.assertEqual(str(ORDER(Side(a=LONG, b=1), Side(x=1, y=LONG))), f"a x 1 ; a y {LONG - 1} ; b y 1")

    def test_by_name(self):
        self.assertEqual(list(steps(order=Order(AX), sources=Side(a=1), uses=Side())), [(AX, 0, 1, 0)])
        self.assertEqual(remains(order=Order(AX), sources=Side(a=1), uses=Side()), (Side(a=1), Side()))

    def test_the_first_error_comes_with_the_first_item(self):
        self.told(BadOrder("order"), lambda: next(iter(steps(5, 6, 7))))


class Shows(Case):
    def test_shows_fill(self):
        sources, uses = Side(a=5, b=4), Side(x=3, y=4)
        put = ORDER(sources, uses)
        self.assertIs(shows_fill(order=ORDER, sources=sources, uses=uses, value=Filling(dict(put))), True)
        for value in [*ANY, str(put), dict(put), put + put, ~put]:
            self.assertIs(shows_fill(ORDER, sources, uses, value), False)
        self.assertIs(shows_fill(ORDER, Side(), uses, Filling({})), True)


class Ripple(Case):
    def test_against_two_fillings(self):
        for order, sources, uses in samples():
            before = order(sources, uses)
            for name in "abcxq":
                row = ripple(order, sources, uses, name)
                behind = order(sources + Side(**{name: 1}), uses)
                change = {pair: behind[pair] - before[pair] for pair in order if behind[pair] != before[pair]}
                self.assertEqual(row, tuple(change))
                self.assertEqual([change[pair] for pair in row], [1 if k % 2 == 0 else -1 for k in range(len(row))])
                for one, other in zip(row, row[1:]):
                    self.assertTrue(one[0] == other[0] or one[1] == other[1])

    def test_of_a_use(self):
        for order, sources, uses in samples():
            for name in "axyzq":
                row = ripple(~order, uses, sources, name)
                behind = order(sources, uses + Side(**{name: 1}))
                before = order(sources, uses)
                self.assertEqual([(a, x) for x, a in row], [pair for pair in order if behind[pair] != before[pair]])

    def test_names(self):
        for value in NO_NAMES:
            self.told(BadName(value), ripple, ORDER, Side(), Side(), value)
        self.assertEqual(ripple(order=ORDER, sources=Side(), uses=Side(y=1), source="a"), (AY,))
        self.assertEqual(ripple(ORDER, Side(a=1), Side(x=1), "q"), ())


class Wrong(Case):
    def test_kinds(self):
        calls = [
            lambda order, sources, uses: list(steps(order, sources, uses)), remains,
            lambda order, sources, uses: shows_fill(order, sources, uses, 5),
            lambda order, sources, uses: ripple(order, sources, uses, 5),
        ]
        for call in calls:
            for value in others(Order):
                self.told(BadOrder("order"), call, value, 5, 5)
            for value in others(Side):
                self.told(BadSide("sources"), call, ORDER, value, 5)
                self.told(BadSide("uses"), call, ORDER, Side(), value)


if __name__ == "__main__":
    unittest.main()
