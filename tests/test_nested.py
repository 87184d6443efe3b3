"""Nested offers and the reasons why offers are not, against the meaning of the words; and looks at both."""

import functools
import itertools
import random
import unittest

from filledrow.errors import BadOffer
from filledrow.look_nested import shows_nested
from filledrow.nested import Crossing, Dearer, Nested, TwoWorths, Unnested, narrow_order, nested
from filledrow.offers import Offers
from filledrow.orders import Order
from filledrow.tables import Table
from tests.support import ANY, LONG, Case, others

DAYS = range(5)


def samples(seed, many, top=4):
    """Offers by chance: of one worth for each source or of several, with last days or without."""
    chance = random.Random(seed)
    for _ in range(many):
        sources, uses = "abcd"[:chance.randint(0, top)], "xyz"[:chance.randint(0, 3)]
        share, several = chance.choice([0.3, 0.6, 0.9]), chance.random() < 0.25
        rows = {}
        for a in sources:
            worth = chance.randint(1, 3)
            rows[a] = {x: (chance.randint(1, 3) if several else worth) * (chance.random() < share) for x in uses}
        ends = chance.choice([(None,), (None, 0, 1, 2), (1, 2)])
        yield Offers.of(Table(rows, list(uses)), {a: chance.choice(ends) for a in sources})


def spots_of(offers, source):
    """All spots that a source serves on the first days, the first one first."""
    end = offers.ends.get(source, DAYS[-1])
    return [(x, day) for day in DAYS for x in offers.table.uses if offers.table[source, x] and day <= end]


def is_within(offers, one, other):
    """Whether a source serves only where another one does."""
    return set(spots_of(offers, one)) <= set(spots_of(offers, other))


def beyond(offers, one, other):
    """The first spot that one serves and other does not."""
    return [spot for spot in spots_of(offers, one) if spot not in spots_of(offers, other)][0]


def shared(offers, one, other):
    """The uses that two sources share."""
    return [x for x in offers.table.uses if offers.table[one, x] and offers.table[other, x]]


def all_reasons(offers):
    """What there is of the three reasons, in their order, each as the first spots and least uses tell it."""
    table = offers.table
    for a in table.sources:
        worths = [table[a, x] for x in table.scope(a)]
        if len(set(worths)) > 1:
            yield TwoWorths(a, table.scope(a)[worths.index(min(worths))], table.scope(a)[worths.index(max(worths))])
    both = [(a, b) for a in table.sources for b in table.sources if a != b and shared(offers, a, b)]
    for a, b in both:
        if a < b and not is_within(offers, a, b) and not is_within(offers, b, a):
            yield Crossing(a, b, shared(offers, a, b)[0], beyond(offers, a, b), beyond(offers, b, a))
    for a, b in both:
        x = shared(offers, a, b)[0]
        if is_within(offers, a, b) and not is_within(offers, b, a) and table[a, x] < table[b, x]:
            yield Dearer(a, b, x, beyond(offers, b, a))


def by_width(offers, use):
    """A comparison of two sources at a use: narrower ones first, equally wide ones by worth, falling, then ascending."""
    def compare(one, other):
        if is_within(offers, one, other) != is_within(offers, other, one):
            return -1 if is_within(offers, one, other) else 1
        return -1 if (-offers.table[one, use], one) < (-offers.table[other, use], other) else 1
    return functools.cmp_to_key(compare)


def lists_of(offers):
    uses = [x for x in offers.table.uses if offers.table.takers(x)]
    return {x: tuple(sorted(offers.table.takers(x), key=by_width(offers, x))) for x in uses}


def can_be_all(rows):
    """All ways to take one of each of some rows."""
    return itertools.product(*rows)


class ToldFirst(Case):
    def test_by_chance(self):
        firsts, kinds = {}, set()
        for offers in samples(1, 1500):
            reasons, found = list(all_reasons(offers)), nested(offers)
            wanted = reasons[0] if reasons else Nested(lists_of(offers))
            self.assertEqual([found, bool(found), type(found)], [wanted, not reasons, type(wanted)])
            self.assertIs(shows_nested(offers, found), True)
            for reason in reasons:
                if not isinstance(reasons[0], TwoWorths) or isinstance(reason, TwoWorths):
                    self.assertIs(shows_nested(offers, reason), True)
            firsts[type(found)] = firsts.get(type(found), 0) + 1
            kinds.add(tuple(sorted({type(reason).__name__ for reason in reasons})))
        self.assertGreater(min(firsts.values()), 50, firsts)
        self.assertEqual(len(kinds), 8, kinds)

    def test_lists(self):
        offers = Offers(Table({"a": {"x": 2, "y": 2}, "b": {"x": 2, "y": 2}, "c": {"x": 3, "y": 3}, "d": {"y": 3}}))
        self.assertEqual(nested(offers).lists, {"x": ("c", "a", "b"), "y": ("d", "c", "a", "b")})
        self.assertEqual(nested(offers=offers.ended("b", 4)), Crossing("b", "d", "y", ("x", 0), ("y", 5)))
        self.assertEqual(nested(offers.ended("c", 4).ended("d", 4)).lists, {"x": ("c", "a", "b"), "y": ("d", "c", "a", "b")})
        self.assertEqual(nested(offers.ended("c", LONG).ended("d", LONG - 1).ended("a", LONG + 1)).lists, {
            "x": ("c", "a", "b"), "y": ("d", "c", "a", "b")})

    def test_the_lists_belong_to_the_caller(self):
        offers = Offers(Table({"a": {"x": 2}}))
        nested(offers).lists.clear()
        self.assertEqual(nested(offers), Nested({"x": ("a",)}))

    def test_two_worths(self):
        offers = Offers(Table({"a": {"x": 2}, "b": {"w": 5, "x": 2, "y": 5, "z": 2}, "c": {"x": 1, "y": 2}}))
        self.assertEqual(nested(offers), TwoWorths("b", "x", "w"))

    def test_crossing(self):
        table = Table({"a": {"x": 1, "y": 1, "z": 1}, "b": {"x": 1, "y": 1}, "c": {"y": 1, "w": 1}})
        self.assertEqual(nested(Offers(table)), Crossing("a", "c", "y", ("x", 0), ("w", 0)))
        self.assertEqual(nested(Offers(table, a=3)), Crossing("a", "b", "x", ("z", 0), ("x", 4)))
        self.assertEqual(nested(Offers(table, a=LONG)), Crossing("a", "b", "x", ("z", 0), ("x", LONG + 1)))
        self.assertEqual(nested(Offers(table.without("c"), b=3)), Nested({"x": ("b", "a"), "y": ("b", "a"), "z": ("a",)}))

    def test_dearer(self):
        table = Table({"a": {"x": 2, "y": 2}, "b": {"x": 1, "y": 1}})
        self.assertEqual(nested(Offers(table, b=0)), Dearer("b", "a", "x", ("x", 1)))
        self.assertEqual(nested(Offers(table, b=5, a=6)), Dearer("b", "a", "x", ("x", 6)))
        self.assertEqual(nested(Offers(table, b=5, a=5)), Nested({"x": ("a", "b"), "y": ("a", "b")}))
        self.assertEqual(nested(Offers(table, a=5)), Nested({"x": ("a", "b"), "y": ("a", "b")}))

    def test_sources_that_serve_nothing(self):
        self.assertEqual([nested(Offers(Table({}))), nested(Offers(Table({}, ["x"]))), nested(Offers(Table({"a": {}})))], [Nested({})] * 3)
        self.assertEqual(nested(Offers(Table({"a": {}, "b": {"x": 1}}, ["y"]), b=3)), Nested({"x": ("b",)}))

    def test_no_offers(self):
        for call in (nested, narrow_order, lambda value: shows_nested(value, 5)):
            for value in others(Offers):
                self.told(BadOffer("offers"), call, value)


class NarrowOrder(Case):
    def test_against_all_orders(self):
        many = 0
        for offers in samples(2, 400):
            told = nested(offers)
            if not told:
                self.told(BadOffer("nested"), narrow_order, offers)
            elif len(offers.table) <= 6:
                many += 1
                rows = [row for row in itertools.permutations(offers.table.pairs) if all(
                    tuple(a for a, x in row if x == use) == told.lists[use] for use in told.lists)]
                self.assertEqual(narrow_order(offers), Order(*rows[0]))
        self.assertGreater(many, 100)

    def test_great(self):
        table = Table({a: {x: 7 - k for x in "uvwxyz"[:k]} for k, a in enumerate("fedcba", 1)})
        order = narrow_order(offers=Offers(table))
        self.assertEqual([len(order), order[0], order[-1]], [21, ("a", "z"), ("a", "u")])
        self.assertEqual([a for a, x in order if x == "u"], list("fedcba"))
        self.assertEqual(str(narrow_order(Offers(Table({}, ["x"])))), "-")


def is_spot(offers, one, other, spot):
    """Whether one serves a spot that other does not."""
    return spot in spots_of(offers, one) and spot not in spots_of(offers, other)


def is_right(offers, value):
    """Whether what is told of offers is right, by the words of the document."""
    w = offers.table
    if isinstance(value, TwoWorths):
        return 0 < w[value.source, value.less] < w[value.source, value.more]
    if isinstance(value, Crossing):
        one, other, use, first, then = value.one, value.other, value.shared, value.by_one, value.by_other
        return (w[one, use] > 0 and w[other, use] > 0 and w[one, use] < w[other, use] + w[one, first[0]]
                and w[other, use] < w[one, use] + w[other, then[0]] and is_spot(offers, one, other, first)
                and is_spot(offers, other, one, then))
    narrow, wide, use, spot = value.narrow, value.wide, value.shared, value.beyond
    return (0 < w[narrow, use] < w[wide, use] < w[narrow, use] + w[wide, spot[0]] and is_spot(offers, wide, narrow, spot))


class ShowsUnnested(Case):
    def test_all_reasons(self):
        many = {TwoWorths: [0, 0], Crossing: [0, 0], Dearer: [0, 0]}
        chance = random.Random(3)
        sources, uses = "ab", "xyz"
        spots = [(x, day) for x in uses for day in (0, 1, 3)]
        for _ in range(150):
            rows = {a: {x: chance.choice([0, 1, 2, 2, 3]) for x in "xyz"} for a in "abc"}
            offers = Offers.of(Table(rows), {a: chance.choice([None, 0, 2]) for a in "abc"})
            told = [TwoWorths(*row) for row in can_be_all([sources, uses, uses])]
            told += [Crossing(*row) for row in can_be_all([sources, sources, uses, spots, spots])]
            told += [Dearer(*row) for row in can_be_all([sources, sources, uses, spots])]
            some = False
            for value in told:
                wanted = is_right(offers, value)
                self.assertIs(shows_nested(offers, value), wanted)
                many[type(value)][wanted] += 1
                some = some or wanted
            if some:
                self.assertIsInstance(nested(offers), Unnested)
        self.assertTrue(all(min(row) > 5 for row in many.values()), many)

    def test_either_way_round(self):
        offers = Offers(Table({"a": {"x": 1, "w": 1, "z": 1}, "b": {"x": 1, "y": 1, "v": 1}}))
        for a, b, spot, other in [("a", "b", ("w", 0), ("v", 0)), ("a", "b", ("z", 7), ("y", LONG)), ("b", "a", ("v", 2), ("w", 1))]:
            self.assertIs(shows_nested(offers=offers, value=Crossing(a, b, "x", spot, other)), True)
            self.assertIs(shows_nested(offers, Crossing(b, a, "x", spot, other)), False)
            self.assertIs(shows_nested(offers, Crossing(a, b, "x", other, spot)), False)
            self.assertIs(shows_nested(offers, Crossing(a, b, "y", spot, other)), False)
            self.assertIs(shows_nested(offers, Crossing(a, b, "q", spot, other)), False)

    def test_other_reasons_are_right_too(self):
        offers = Offers(Table({"a": {"x": 2, "y": 3}, "b": {"x": 4, "y": 4, "z": 4}, "c": {"z": 1, "w": 1}}), a=2)
        for reason in [TwoWorths("a", "x", "y"), Crossing("b", "c", "z", ("x", 0), ("w", 0)), Crossing("c", "b", "z", ("w", 5), ("y", 9)),
                       Dearer("a", "b", "x", ("z", 0)), Dearer("a", "b", "x", ("y", 3)), Dearer("a", "b", "y", ("z", 8))]:
            self.assertIs(shows_nested(offers, reason), True)
        for reason in [TwoWorths("a", "y", "x"), TwoWorths("a", "x", "x"), TwoWorths("a", "z", "y"), TwoWorths("b", "x", "y"),
                       Dearer("a", "b", "x", ("y", 2)), Dearer("b", "a", "x", ("z", 0)), Dearer("a", "b", "z", ("z", 0))]:
            self.assertIs(shows_nested(offers, reason), False)
        self.assertEqual(nested(offers), TwoWorths("a", "x", "y"))

    def test_worths_that_are_too_great(self):
        table = Table({"a": {"x": 9, "y": 2}, "b": {"x": 4, "z": 4}})
        spots = ("y", 0), ("z", 0)
        self.assertIs(shows_nested(Offers(table), Crossing("a", "b", "x", *spots)), False)
        self.assertIs(shows_nested(Offers(table.with_worth("a", "x", 6)), Crossing("a", "b", "x", *spots)), False)
        self.assertIs(shows_nested(Offers(table.with_worth("a", "x", 5)), Crossing("a", "b", "x", *spots)), True)
        self.assertIs(shows_nested(Offers(table.with_worth("a", "x", 5)), Crossing("b", "a", "x", *spots[::-1])), True)
        table = Table({"a": {"x": 1}, "b": {"x": 4, "z": 3}})
        self.assertIs(shows_nested(Offers(table), Dearer("a", "b", "x", ("z", 0))), False)
        self.assertIs(shows_nested(Offers(table.with_worth("b", "z", 4)), Dearer("a", "b", "x", ("z", 0))), True)
        self.assertIs(shows_nested(Offers(table.with_worth("a", "x", 4)), Dearer("a", "b", "x", ("z", 0))), False)

    def test_bent(self):
        offers = Offers(Table({"a": {"x": 1, "w": 1}, "b": {"x": 3, "y": 3}, "c": {"x": 3, "y": 5, "w": 2}}), a=4)
        spots = [("x", 1.0), ("x",), ["x", 5], ("x", 5, 5), ("x", -1), ("x", True), ("y", False), (0, "y"), ("y", None), ("Y", 0), ("self", 0),
                 (["y"], 0), ("y", [0]), {"y": 0}, "y0", ("q", 0), (None, 0), ("x", "5")]
        for paper, fields in [(TwoWorths("c", "w", "y"), ["source", "less", "more"]),
                              (Crossing("a", "b", "x", ("w", 0), ("y", 0)), ["one", "other", "shared", "by_one", "by_other"]),
                              (Dearer("a", "b", "x", ("y", 0)), ["narrow", "wide", "shared", "beyond"]),
                              (Dearer("a", "b", "x", ("x", 5)), ["narrow", "wide", "shared", "beyond"])]:
            told = [getattr(paper, field) for field in fields]
            self.assertIs(shows_nested(offers, paper), True)
            for k in range(len(fields)):
                for value in [*ANY, *spots, [told[k]], (told[k],), "q"]:
                    bent = told[:k] + [value] + told[k + 1:]
                    if bent not in [told, ["c", "x", "y"], ["c", "w", "x"]]:
                        self.assertIs(shows_nested(offers, type(paper)(*bent)), False, bent)

    def test_days(self):
        offers = Offers(Table({"a": {"x": 1}, "b": {"x": 3}}), a=0)
        self.assertIs(shows_nested(offers, Dearer("a", "b", "x", ("x", 1))), True)
        self.assertIs(shows_nested(offers, Dearer("a", "b", "x", ("x", True))), False)
        self.assertIs(shows_nested(offers, Dearer("a", "b", "x", ("x", 10 ** 39))), True)

    def test_other_values(self):
        offers = Offers(Table({"a": {"x": 1, "y": 2}}))
        for value in [*ANY, Unnested(), ("a", "x", "y"), True, False]:
            if value != TwoWorths("a", "x", "y"):
                self.assertIs(shows_nested(offers, value), False)


class ShowsLists(Case):
    def test_all_lists(self):
        many = [0, 0]
        for offers in samples(4, 250, top=3):
            uses = [x for x in offers.table.uses if offers.table.takers(x)]
            rows = [list(itertools.permutations(offers.table.takers(x))) for x in uses]
            one_worth = all(len({offers.table[a, x] for x in offers.table.scope(a)}) < 2 for a in offers)
            for told in can_be_all(rows):
                lists = dict(zip(uses, told))
                wanted = one_worth and all(
                    is_within(offers, a, b) and offers.table[a, x] >= offers.table[b, x]
                    for x, row in lists.items() for a, b in zip(row, row[1:]))
                self.assertIs(shows_nested(offers, Nested(lists)), wanted)
                self.assertIs(shows_nested(offers, Nested(dict(reversed(lists.items())))), wanted)
                self.assertTrue(nested(offers) or not wanted)
                many[wanted] += 1
        self.assertGreater(min(many), 50)

    def test_equally_good_sources(self):
        offers = Offers(Table({"a": {"x": 2}, "b": {"x": 2}, "c": {"x": 1}}), a=3, b=3, c=3)
        self.assertEqual(nested(offers), Nested({"x": ("a", "b", "c")}))
        self.assertIs(shows_nested(offers, Nested({"x": ("b", "a", "c")})), True)
        self.assertIs(shows_nested(offers, Nested({"x": ("a", "c", "b")})), False)

    def test_bent(self):
        offers = Offers(Table({"s": {"x": 3}, "w": {"x": 2, "y": 2}}, ["z"]))
        self.assertIs(shows_nested(offers, Nested({"y": ("w",), "x": ("s", "w")})), True)
        for lists in [{"x": ("w", "s"), "y": ("w",)}, {"x": ("s",), "y": ("w",)}, {"x": ("s", "w", "s"), "y": ("w",)},
                      {"x": ("s", "s"), "y": ("w",)}, {"x": ("s", "w"), "y": ("w", "w")}, {"x": ("s", "w"), "y": ()},
                      {"x": ("s", "w"), "y": ("s",)}, {"x": ("s", "w"), "y": ("q",)}, {"x": ("s", "w", "q"), "y": ("w",)},
                      {"x": ("s", "w")}, {"x": ("s", "w"), "y": ("w",), "z": ()}, {"x": ("s", "w"), "z": ("w",)},
                      {"x": ("s", "w"), "y": ("w",), None: ()}, {"x": ["s", "w"], "y": ("w",)}, {"x": ("s", "w"), "y": "w"},
                      {"x": ("s", "w"), "y": ["w"]}, {"x": ("s", "w"), "y": {"w": 1}}, {("x",): ("s", "w"), "y": ("w",)},
                      {"x": ("s", ["w"]), "y": ("w",)}, {"x": ("s", ("w",)), "y": ("w",)}, [("x", ("s", "w")), ("y", ("w",))], {}]:
            self.assertIs(shows_nested(offers, Nested(lists)), False, lists)
        for value in ANY:
            self.assertIs(shows_nested(offers, Nested(value)), False)
            self.assertIs(shows_nested(offers, Nested({"x": ("s", "w"), "y": value})), False)
            self.assertIs(shows_nested(offers, Nested({"x": ("s", value), "y": ("w",)})), False)
            self.assertIs(shows_nested(offers, Nested({"x": (value, "w"), "y": ("w",)})), False)

    def test_of_no_source(self):
        for offers in (Offers(Table({})), Offers(Table({}, ["x"])), Offers(Table({"a": {"x": 0}}), a=2)):
            self.assertIs(shows_nested(offers, Nested({})), True)
            for lists in ({"x": ()}, {"x": ("a",)}, (), [], None):
                self.assertIs(shows_nested(offers, Nested(lists)), False)

    def test_nothing_is_changed(self):
        offers, lists = Offers(Table({"a": {"x": 1}})), {"x": ("a",)}
        self.assertIs(shows_nested(offers, Nested(lists)), True)
        self.assertEqual(lists, {"x": ("a",)})


class Papers(Case):
    def test_papers(self):
        self.is_paper(Nested, ["lists"], True)
        self.is_paper(TwoWorths, ["source", "less", "more"], False)
        self.is_paper(Crossing, ["one", "other", "shared", "by_one", "by_other"], False)
        self.is_paper(Dearer, ["narrow", "wide", "shared", "beyond"], False)

    def test_unnested(self):
        for kind in (TwoWorths, Crossing, Dearer):
            self.assertEqual(kind.__bases__, (Unnested,))
        self.assertIs(bool(Unnested()), False)
        self.assertNotIsInstance(Nested({}), Unnested)


if __name__ == "__main__":
    unittest.main()
