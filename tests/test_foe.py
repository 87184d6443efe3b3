"""The foe: its reason and its sources, games against all kinds of rules, and looks at games."""

import itertools
import random
import unittest

from filledrow.errors import BadOffer, BadRule, IsNested, Lacking
from filledrow.foe import Foe, Game, shows_game
from filledrow.nested import Crossing, Dearer, Nested, TwoWorths, nested
from filledrow.offers import Coming, Offers
from filledrow.rules import By, Dearest, Listed, Narrowest, Rule, Soonest, hindsight, serve
from filledrow.sides import Side
from filledrow.tables import Table
from tests.support import ANY, LONG, NO_AMOUNTS, Case, can_be_key, others
from tests.test_nested import samples
from tests.test_rules import nothing, one_unit, random_comings, random_rules, takings

TWO = Offers(Table({"a": {"x": 2, "y": 5}, "b": {"x": 9}}))
CROSSED = Offers(Table({"a": {"w": 1, "x": 1}, "b": {"x": 2, "y": 2}}), b=3)
DEARER = Offers(Table({"s": {"x": 3}, "w": {"x": 4, "y": 4}}))


def always(source):
    """A rule that takes a unit of a source wherever it can."""
    return By(lambda use, amount, day, left, offers: {source: 1} if left[source] and source in offers.servers(use, day) else {})


def named(reason):
    return [value for field, value in vars(reason).items() if field in ("source", "one", "other", "narrow", "wide")]


def wanted_game(offers, rule):
    """The game against a rule, by the words of the document."""
    reason, w = nested(offers), offers.table
    sources = Side.of({a: 1 for a in named(reason)})
    use = reason.less if isinstance(reason, TwoWorths) else reason.shared
    answers = {
        TwoWorths: lambda: {reason.source: (reason.more, 0)},
        Crossing: lambda: {reason.one: reason.by_one, reason.other: reason.by_other},
        Dearer: lambda: {reason.wide: reason.beyond}}[type(reason)]()
    taken = rule(use, 1, 0, sources, offers)
    first = list(taken)[0] if taken else None
    if first not in answers:
        greatest = max(w[a, use] for a in sources.names)
        best = [a for a in sources.names if w[a, use] == greatest][0]
        return Game(sources, (Coming(use, 1),), (taken,), ({best: 1},))
    use_then, day = answers[first]
    then = rule(use_then, 1, day, sources - Side.of(taken), offers)
    other = {a: 1 for a in sources.names if a != first}
    return Game(sources, (Coming(use, 1), Coming(use_then, 1, day)), (taken, then), (other, {first: 1}))


class Making(Case):
    def test_by_chance(self):
        kinds = {}
        for offers in samples(21, 800):
            reason = nested(offers)
            if reason:
                self.told(IsNested(), Foe, offers)
            else:
                foe = Foe(offers=offers)
                self.assertEqual([foe.reason, type(foe.reason), foe.sources], [reason, type(reason), Side.of({a: 1 for a in named(reason)})])
                kinds[type(reason)] = kinds.get(type(reason), 0) + 1
        self.assertGreater(min(kinds.values()), 20, kinds)
        self.assertEqual(len(kinds), 3)

    def test_sources(self):
        self.assertEqual([str(Foe(offers).sources) for offers in (TWO, CROSSED, DEARER)], ["a 1", "a 1 b 1", "s 1 w 1"])
        self.assertEqual([type(Foe(offers).reason) for offers in (TWO, CROSSED, DEARER)], [TwoWorths, Crossing, Dearer])

    def test_wrong(self):
        for value in others(Offers):
            self.told(BadOffer("offers"), Foe, value)
            self.told(BadOffer("offers"), shows_game, value, 5)
        for table in (Table({}), Table({}, ["x"]), Table({"a": {"x": 1}}), Table({"s": {"x": 3}, "w": {"x": 2, "y": 2}})):
            self.told(IsNested(), Foe, Offers(table))


class Playing(Case):
    def test_by_chance(self):
        chance = random.Random(22)
        many = {}
        for offers in samples(23, 700):
            if nested(offers):
                continue
            foe = Foe(offers)
            for rule in [random_rules(chance), always(chance.choice("abcd")), Narrowest(), Dearest(), By(nothing), By(one_unit)]:
                game = foe.play(rule)
                self.assertEqual(game, wanted_game(offers, rule))
                self.assertIs(shows_game(offers, game), True)
                self.assertEqual(serve(rule, offers, game.sources, game.comings).taken, game.taken)
                self.assertLess(serve(rule, offers, game.sources, game.comings).earned, hindsight(offers, game.sources, game.comings))
                self.assertEqual([type(game), type(game.comings), type(game.taken), type(game.better)], [Game, tuple, tuple, tuple])
                key = type(foe.reason), len(game.comings)
                many[key] = many.get(key, 0) + 1
        self.assertEqual(len(many), 6, many)
        self.assertGreater(min(many.values()), 20, many)

    def test_two_worths(self):
        foe = Foe(TWO)
        self.assertEqual(foe.play(rule=Dearest()), Game(Side(a=1), (Coming("x", 1), Coming("y", 1)), ({"a": 1}, {}), ({}, {"a": 1})))
        self.assertEqual(foe.play(always("b")), Game(Side(a=1), (Coming("x", 1),), ({},), ({"a": 1},)))

    def test_crossing(self):
        foe, x = Foe(CROSSED), Coming("x", 1)
        self.assertEqual(foe.play(Dearest()), Game(Side(a=1, b=1), (x, Coming("y", 1)), ({"b": 1}, {}), ({"a": 1}, {"b": 1})))
        self.assertEqual(foe.play(Listed({"x": ["a"]})), Game(Side(a=1, b=1), (x, Coming("w", 1)), ({"a": 1}, {}), ({"b": 1}, {"a": 1})))
        self.assertEqual(foe.play(By(nothing)), Game(Side(a=1, b=1), (x,), ({},), ({"b": 1},)))
        later = Foe(Offers(Table({"a": {"x": 1}, "b": {"x": 1, "y": 1}}), b=LONG))
        self.assertEqual(later.play(always("a")).comings, (x, Coming("x", 1, LONG + 1)))
        self.assertEqual(later.play(By(nothing)).better, ({"a": 1},))

    def test_dearer(self):
        foe, x = Foe(DEARER), Coming("x", 1)
        self.assertEqual(foe.play(Soonest()), Game(Side(s=1, w=1), (x,), ({"s": 1},), ({"w": 1},)))
        self.assertEqual(foe.play(always("w")), Game(Side(s=1, w=1), (x, Coming("y", 1)), ({"w": 1}, {}), ({"s": 1}, {"w": 1})))
        self.assertEqual(foe.play(By(nothing)).better, ({"w": 1},))

    def test_the_rule_is_called_once_for_each_coming(self):
        for source, wanted in [("w", [("x", 1, 0, "s 1 w 1"), ("y", 1, 0, "s 1")]), ("s", [("x", 1, 0, "s 1 w 1")])]:
            told = []

            def work(use, amount, day, left, offers):
                told.append((use, amount, day, str(left)))
                self.assertIs(offers, DEARER)
                return {source: 1} if use == "x" else {"w": 0}
            self.assertEqual(Foe(DEARER).play(By(work)).taken, ({"w": 1}, {}) if source == "w" else ({"s": 1},))
            self.assertEqual(told, wanted)

    def test_a_rule_that_changes_its_mind(self):
        turns = iter(["w", "s", "s", "w"])
        rule, foe = By(lambda use, amount, day, left, offers: {next(turns): 1} if use == "x" else {}), Foe(DEARER)
        self.assertEqual([len(foe.play(rule).comings) for _ in range(4)], [2, 1, 1, 2])

    def test_bad_rules(self):
        for value in [*others(Rule), Narrowest]:
            self.told(BadRule("rule"), Foe(DEARER).play, value)
        for told, cause in [(5, BadRule("dict")), ({"w": 2}, Lacking("w")), ({"s": 1, "w": 1}, Lacking("x"))]:
            with self.assertRaises(BadRule) as caught:
                Foe(DEARER).play(By(lambda *given: told))
            self.assertEqual([caught.exception.part, caught.exception.__cause__.part], [0, "taken"])
            self.assertEqual(repr(caught.exception.__cause__.__cause__), repr(cause))
        self.told(BadRule(1), Foe(DEARER).play, By(lambda use, *given: {"w": 1}))
        with self.assertRaises(KeyError):
            Foe(DEARER).play(By(lambda *given: {}["why"]))

    def test_the_game_belongs_to_the_caller(self):
        foe, kept = Foe(DEARER), {"s": 1}
        game = foe.play(By(lambda *told: kept))
        game.taken[0].clear()
        game.better[0].clear()
        self.assertEqual([kept, foe.play(Narrowest()).taken], [{"s": 1}, ({"s": 1},)])


def is_possible(offers, game, rows):
    """Whether rows are among all that can be taken, one behind the other."""
    left = game.sources
    for coming, row in zip(game.comings, rows):
        if {a: many for a, many in row.items()} not in [
                {a: many for a, many in told.items() if many} for told in takings(offers, coming, left)]:
            return False
        left = left - Side.of(row)
    return True


def earned(offers, game, rows):
    return sum(many * offers.table[a, coming.use] for coming, row in zip(game.comings, rows) for a, many in row.items())


class Looking(Case):
    def test_by_chance(self):
        chance = random.Random(24)
        told = {True: 0, False: 0}
        for offers in samples(25, 900, top=3):
            for _ in range(6):
                comings = tuple(random_comings(chance, chance.randint(0, 3), top=2, days=3))
                sources = Side.of({a: chance.randint(0, 2) for a in "abcq"})
                rows = [list(serve(random_rules(chance), offers, sources, comings).taken) for _ in range(2)]
                for row in rows:
                    for at in range(len(row)):
                        if chance.random() < 0.2:
                            row[at] = {a: chance.randint(1, 2) for a in chance.sample("abcq", chance.choice([0, 1, 2]))}
                game = Game(sources, comings, *[tuple(row) for row in rows])
                wanted = all(is_possible(offers, game, row) for row in rows) and earned(offers, game, rows[0]) < earned(offers, game, rows[1])
                self.assertIs(shows_game(offers, game), wanted)
                told[wanted] += 1
        self.assertGreater(min(told.values()), 60, told)

    def test_games_of_hindsight(self):
        comings = tuple(Coming("x", 1, day) for day in range(50))
        better = tuple({"w": 1} if day < 2 else {} for day in range(50))
        self.assertIs(shows_game(DEARER, Game(Side(s=0, w=2), comings, ({},) * 50, better)), True)
        self.assertIs(shows_game(offers=DEARER, value=Game(Side(w=1), comings, ({},) * 50, better)), False)
        easy = Offers(Table({"a": {"x": LONG}}), a=LONG)
        far = (Coming("x", 0), Coming("x", 10 * LONG, LONG))
        self.assertIs(shows_game(easy, Game(Side(a=7 * LONG), far, ({}, {"a": 7 * LONG - 1}), ({}, {"a": 7 * LONG}))), True)
        self.assertIs(shows_game(easy, Game(Side(a=7 * LONG), far, ({}, {"a": 7 * LONG}), ({}, {"a": 7 * LONG}))), False)
        self.assertIs(shows_game(easy, Game(Side(a=7 * LONG), far, ({}, {}), ({}, {"a": 7 * LONG + 1}))), False)

    def test_days(self):
        offers = Offers(Table({"a": {"x": 1}}), a=3)
        for days, wanted in [((0, 3), True), ((3, 3), True), ((3, 2), False), ((3, 4), False)]:
            comings = tuple(Coming("x", 1, day) for day in days)
            self.assertIs(shows_game(offers, Game(Side(a=2), comings, ({}, {}), ({"a": 1}, {"a": 1}))), wanted)

    def test_bent(self):
        offers, right = DEARER, Game(Side(s=1, w=1), (Coming("x", 1), Coming("y", 1)), ({"w": 1}, {}), ({"s": 1}, {"w": 1}))
        self.assertIs(shows_game(offers, right), True)
        fields = ["sources", "comings", "taken", "better"]
        told = [getattr(right, field) for field in fields]
        rows = [({},), ({}, {}, {}), [{}, {}], ({"w": 1}, []), ({"w": True}, {}), ({"w": 0}, {}), ({"w": -1}, {}), ({"w": 1}, {"w": 0}), ({}, {"s": 0}),
                ({"q": 1}, {}), ({"q": 0}, {}), ({"s": 1, "w": 1}, {}), ({"s": 2}, {}), ({}, {"s": 1}), ({"w": 1}, {"w": 1}), ({"w": 1.0}, {}), ({("w",): 1}, {})]
        for at in (2, 3):
            for row in rows:
                self.assertIs(shows_game(offers, Game(*told[:at], row, *told[at + 1:])), False, row)
        for at, value in itertools.product(range(4), ANY):
            bent = [*told[:at], value, *told[at + 1:]]
            if not (at == 0 and isinstance(value, Side)):
                self.assertIs(shows_game(offers, Game(*bent)), False, bent)
        for value in ANY:
            for at in (2, 3):
                if not isinstance(value, dict) or value:
                    self.assertIs(shows_game(offers, Game(*told[:at], ({"w": 1} if at == 2 else {"s": 1}, value), *told[at + 1:])), False)
            if can_be_key(value):
                self.assertIs(shows_game(offers, Game(*told[:3], ({"s": 1, value: 1}, {"w": 1}))), False)
        for value in NO_AMOUNTS:
            self.assertIs(shows_game(offers, Game(*told[:2], ({}, {}), ({"s": value}, {"w": 1}))), False)
        for comings in [list(told[1]), told[1][:1], told[1] + told[1], (Coming("y", 1), Coming("x", 1)), (Coming("x", 1), 5), (Coming("x", 0), Coming("y", 1)),
                        (Coming("x", 1, 2), Coming("y", 1, 1)), (Coming("q", 1), Coming("y", 1))]:
            self.assertIs(shows_game(offers, Game(told[0], comings, *told[2:])), False)
        for sources in [Side(), Side(w=1), Side(s=1), {"s": 1, "w": 1}]:
            self.assertIs(shows_game(offers, Game(sources, *told[1:])), False)

    def test_other_values(self):
        for value in [*ANY, Nested({}), None]:
            self.assertIs(shows_game(DEARER, value), False)

    def test_no_nested_offers_are_asked_for(self):
        easy = Offers(Table({"a": {"x": 1}}))
        self.assertIs(shows_game(easy, Game(Side(a=1), (Coming("x", 1),), ({},), ({"a": 1},))), True)

    def test_nothing_is_changed(self):
        game = Foe(DEARER).play(Dearest())
        self.assertIs(shows_game(DEARER, game), True)
        self.assertEqual(game, Foe(DEARER).play(Dearest()))

    def test_game(self):
        self.is_paper(Game, ["sources", "comings", "taken", "better"], True)


if __name__ == "__main__":
    unittest.main()
