"""Rules: what they take, what they earn, what hindsight tells, against all that could have been taken."""

import itertools
import random
import re
import unittest

from filledrow.errors import (BadAmount, BadName, BadOffer, BadRule, BadSide, BadText, FillError, Lacking, NoName,
                              TooMany)
from filledrow.nested import nested
from filledrow.offers import Coming, Offers
from filledrow.rules import By, Dearest, Listed, Narrowest, Rule, Served, Soonest, first_loss, hindsight, serve
from filledrow.sides import Side
from filledrow.tables import Table
from tests.support import ANY, LONG, NO_AMOUNTS, NO_DICTS, NO_NAMES, NO_ROWS, NO_STRINGS, Case, can_be_key, others
from tests.test_nested import samples
from tests.test_texts import JUNK, changed

OFFERS = Offers(Table({
    "a": {"x": 5, "y": 5, "z": 5}, "b": {"x": 3, "y": 1}, "c": {"x": 3, "z": 9}, "d": {"x": 9, "w": 2}, "e": {"y": 4}, "f": {}}),
    b=7, d=3, c=7)
EASY = Offers(Table({"s": {"x": 3}, "w": {"x": 2, "y": 2}}))
NO_RULES = others(Rule)


def infinite(end):
    return 10 ** 50 if end is None else end


def wanted_row(kind, use, day, offers):
    """The sources that a rule goes through, by the words of the document."""
    def key(a):
        worth, end = -offers.table[a, use], infinite(offers.end(a))
        narrow = (len(offers.table.scope(a)), end, worth, a)
        return {Narrowest: narrow, Dearest: (worth, *narrow), Soonest: (end, *narrow)}[kind]
    return tuple(sorted(offers.servers(use, day), key=key))


def wanted_taken(row, amount, left):
    taken = {}
    for a in row:
        taken[a] = min(left[a], amount)
        amount -= taken[a]
    return {a: many for a, many in taken.items() if many}


def nothing(use, amount, day, left, offers):
    return {}


def one_unit(use, amount, day, left, offers):
    """Takes a unit of the last source that serves and has one."""
    able = [a for a in offers.servers(use, day) if left[a]]
    return {able[-1]: 1, able[0]: 0} if able[1:] else {a: 1 for a in able}


def random_rules(chance):
    """A rule by chance, perhaps a joined one."""
    lists = {x: chance.sample("abcdq", chance.randint(0, 4)) for x in "xyz" if chance.random() < 0.8}
    rules = [Narrowest(), Dearest(), Soonest(), Listed(lists), By(nothing), By(one_unit)]
    told = chance.choice(rules)
    for _ in range(chance.choice([0, 0, 1, 2])):
        told = told | chance.choice(rules)
    return told


def random_comings(chance, many, uses="xyzq", top=3, days=4):
    days = sorted(chance.randint(0, days) for _ in range(many))
    return [Coming(chance.choice(uses), chance.randint(0, top), day) for day in days]


def takings(offers, coming, left):
    """All dicts that can be taken for a coming."""
    servers = [a for a in offers.servers(coming.use, coming.day) if left[a]]
    for row in itertools.product(*[range(min(left[a], coming.amount) + 1) for a in servers]):
        if sum(row) <= coming.amount:
            yield dict(zip(servers, row))


def most(offers, left, comings):
    """The most that can be earned, by trying all that can be taken."""
    best = {tuple(left[a] for a in offers): 0}
    for coming in comings:
        more = {}
        for state, earned in best.items():
            for taken in takings(offers, coming, dict(zip(offers, state))):
                rest = tuple(many - taken.get(a, 0) for a, many in zip(offers, state))
                worth = earned + sum(many * offers.table[a, coming.use] for a, many in taken.items())
                more[rest] = max(more.get(rest, 0), worth)
        best = more
    return max(best.values())


class Rows(Case):
    def test_rows(self):
        self.assertEqual(Narrowest().row("x", 0, OFFERS), ("d", "b", "c", "a"))
        self.assertEqual(Narrowest().row(use="x", day=4, offers=OFFERS), ("b", "c", "a"))
        self.assertEqual(Narrowest().row("x", 8, OFFERS), ("a",))
        self.assertEqual(Dearest().row("x", 0, OFFERS), ("d", "a", "b", "c"))
        self.assertEqual(Soonest().row("x", 0, OFFERS), ("d", "b", "c", "a"))
        self.assertEqual(Listed({"x": ["q", "a", "f", "d", "none" + "s"], "y": ()}).row("x", 0, OFFERS), ("a", "d"))
        for rule in (Narrowest(), Dearest(), Soonest(), Listed({"y": ["a"]})):
            self.assertEqual([rule.row("q", 0, OFFERS), rule.row("x", 0, Offers(Table({})))], [(), ()])
        self.assertEqual([Listed({}).row("x", 0, OFFERS), Listed({"y": ["a"]}).row("x", 0, OFFERS)], [(), ()])

    def test_narrow_ones_by_worth_at_the_use(self):
        offers = Offers(Table({"a": {"x": 1, "y": 9}, "b": {"x": 2, "y": 1}, "c": {"x": 2, "y": 2}}))
        self.assertEqual([Narrowest().row("x", 0, offers), Narrowest().row("y", 0, offers)], [("b", "c", "a"), ("a", "c", "b")])

    def test_by_chance(self):
        chance = random.Random(1)
        for offers in samples(5, 300):
            offers = offers.ended("a", chance.choice([None, LONG])) if "a" in offers else offers
            for use, day in itertools.product("xyzq", (0, 1, 2, 3, LONG, LONG + 1)):
                for kind in (Narrowest, Dearest, Soonest):
                    self.assertEqual(kind().row(use, day, offers), wanted_row(kind, use, day, offers))
                row = chance.sample("abcdq", 3)
                self.assertEqual(Listed({use: row, "w": ["a"]}).row(use, day, offers), tuple(
                    a for a in row if a in offers.servers(use, day)))

    def test_what_is_taken(self):
        left = Side(a=4, b=2, c=1, d=LONG, q=5)
        self.assertEqual(Narrowest()("x", 5, 4, left, OFFERS), {"b": 2, "c": 1, "a": 2})
        self.assertEqual(list(Narrowest()(use="x", amount=LONG + 2, day=0, left=left, offers=OFFERS).items()), [("d", LONG), ("b", 2)])
        self.assertEqual([Narrowest()("x", 0, 0, left, OFFERS), Narrowest()("q", 3, 0, left, OFFERS), Narrowest()("x", 3, 0, Side(), OFFERS)], [{}] * 3)
        self.assertEqual(Listed({"x": ["b", "q", "a"]})("x", 9, 0, left, OFFERS), {"b": 2, "a": 4})
        self.assertEqual(Listed({"x": ["b", "q", "a"]})("y", 9, 0, left, OFFERS), {})
        self.assertEqual((Listed({"x": ["b"]}) | Dearest())("x", 5, 8, Side(a=2, b=2), OFFERS), {"a": 2})

    def test_taken_by_chance(self):
        chance = random.Random(2)
        for offers in samples(6, 300):
            left = Side.of({a: chance.choice([0, 1, 2, LONG]) for a in "abcd"})
            use, day, amount = chance.choice("xyzq"), chance.randint(0, 3), chance.choice([0, 1, 2, 3, LONG])
            for rule in (Narrowest(), Dearest(), Soonest(), Listed({x: chance.sample("abcdq", 3) for x in "xyz"})):
                wanted = wanted_taken(rule.row(use, day, offers), amount, left)
                self.assertEqual(rule(use, amount, day, left, offers), wanted)
                self.assertEqual(list(rule(use, amount, day, left, offers)), list(wanted))


class Lists(Case):
    def test_wrong(self):
        for value in NO_DICTS:
            self.told(BadRule("lists"), Listed, value)
        for value in NO_ROWS:
            self.told(BadRule("lists"), Listed, {5: ["a"], "x": value})
        for value in NO_NAMES:
            if can_be_key(value):
                self.told(BadName(value), Listed, {"x": ["-"], value: [5], "-": ["a", "a"]})
            self.told(BadName(value), Listed, {"y": ["a", "a"], "x": ["b", value, 5], "z": ("-",)})
            self.told(BadName(value), Listed, {"y": (value,), "z": ("-",)})
        self.told(BadRule("twice"), Listed, {"y": ["a"], "x": ["a", "b", "a"]})
        self.told(BadRule("twice"), Listed, lists={"x": ("a", "a")})

    def test_later_changes_have_no_effect(self):
        lists = {"x": ["a"]}
        rule = Listed(lists)
        lists["x"].append("b")
        lists["y"] = ["a"]
        self.assertEqual([str(rule), rule == Listed({"x": ["a"]}), lists], ["listed ; x a", True, {"x": ["a", "b"], "y": ["a"]}])


class Joined(Case):
    def test_what_the_second_is_told(self):
        told = []

        def work(use, amount, day, left, offers):
            told.append((use, amount, day, str(left), offers))
            return {"w": 1, "s": 0}
        rule = Listed({"x": ["s"]}) | By(work) | Narrowest()
        self.assertEqual(rule("x", 5, 3, Side(s=2, w=3, q=1), EASY), {"s": 2, "w": 3})
        self.assertEqual(told, [("x", 3, 3, "q 1 w 3", EASY)])

    def test_against_one_after_the_other(self):
        chance = random.Random(3)
        for offers in samples(7, 300):
            left = Side.of({a: chance.choice([0, 1, 2, LONG]) for a in "abcd"})
            use, day, amount = chance.choice("xyzq"), chance.randint(0, 3), chance.choice([1, 2, 3, LONG])
            one, other, third = random_rules(chance), random_rules(chance), random_rules(chance)
            first = Side.of(one(use, amount, day, left, offers))
            then = Side.of(other(use, amount - first.total, day, left - first, offers) if first.total < amount else {})
            self.assertEqual((one | other)(use, amount, day, left, offers), dict(first + then))
            self.assertEqual([(one | other) | third, str(one | (other | third))], [one | (other | third), " | ".join(map(str, (one, other, third)))])
            self.assertEqual((one | other | third)(use, amount, day, left, offers), (one | (other | third))(use, amount, day, left, offers))

    def test_equal(self):
        a, b, c = Narrowest(), Dearest(), Listed({"x": ["a"]})
        self.assertEqual([(a | b) | c == a | (b | c), a | b == a | b, a | a == a, a | b == b | a, a | b == a | b | a, a == a | b],
                         [True, True, False, False, False, False])

    def test_no_rule(self):
        for value in [*NO_RULES, Narrowest, Rule]:
            for rule in (Narrowest(), Dearest(), Soonest(), Listed({}), By(nothing), Narrowest() | Dearest()):
                self.told(BadRule("other"), lambda: rule | value)

    def test_errors_go_on(self):
        rule = Listed({"x": ["s"]}) | By(lambda *told: {"w": 2})
        self.assertEqual(rule("x", 3, 0, Side(s=1, w=2), EASY), {"s": 1, "w": 2})
        with self.assertRaises(BadRule) as caught:
            rule("x", 2, 0, Side(s=1, w=2), EASY)
        self.assertEqual([repr(caught.exception), repr(caught.exception.__cause__)], ["BadRule('taken')", "Lacking('x')"])


class Equal(Case):
    def test_equal(self):
        rules = [Narrowest(), Dearest(), Soonest(), Listed({}), Listed({"x": []}), Listed({"x": ["a"]}), Listed({"x": ["a", "b"]}),
                 Listed({"x": ["b", "a"]}), Listed({"y": ["a"]}), Listed({"x": ["a"], "y": []}), By(nothing), By(one_unit), By(len),
                 Narrowest() | Dearest(), Narrowest() | Narrowest()]
        for one, other in itertools.product(range(len(rules)), repeat=2):
            self.assertIs(rules[one] == rules[other], one == other)
        self.assertEqual([Narrowest(), Dearest(), Soonest(), By(work=len)], [Narrowest(), Dearest(), Soonest(), By(len)])
        self.assertEqual(Listed({"x": ["a", "b"], "y": ()}), Listed({"y": [], "x": ("a", "b")}))
        for rule in rules:
            self.assertIs(bool(rule), True)
            for value in NO_RULES:
                self.assertIs(rule == value, False)


class ByWork(Case):
    def test_what_it_is_told(self):
        told = []

        def work(*given):
            told.append(given)
            return {"w": 2, "s": 0}
        left = Side(s=1, w=2)
        self.assertEqual([By(work)("y", 3, 7, left, EASY), told], [{"w": 2}, [("y", 3, 7, left, EASY)]])

    def test_what_it_returns_is_not_kept(self):
        kept = {"w": 1}
        rule = By(lambda *told: kept)
        served = serve(rule, EASY, Side(w=5), [Coming("x", 2)])
        kept["w"] = 2
        served.taken[0]["w"] = 4
        self.assertEqual([kept, rule("x", 2, 0, Side(w=5), EASY)], [{"w": 2}, {"w": 2}])

    def causes(self, told, cause, use="x", amount=3, day=0, left=Side(s=2, w=5), offers=EASY):
        with self.assertRaises(BadRule) as caught:
            By(lambda *given: told)(use, amount, day, left, offers)
        self.assertEqual([type(caught.exception), caught.exception.part], [BadRule, "taken"])
        mine = caught.exception.__cause__
        self.assertEqual([type(mine), vars(mine)], [type(cause), vars(cause)])
        self.assertEqual([type(value) for value in vars(mine).values()], [type(value) for value in vars(cause).values()])
        with self.assertRaises(BadRule) as caught:
            serve(By(lambda *given: told), offers, left, [Coming(use, 0), Coming(use, amount, day)])
        self.assertEqual([caught.exception.part, caught.exception.__cause__.part], [1, "taken"])
        self.assertEqual(repr(caught.exception.__cause__.__cause__), repr(cause))

    def test_causes_alone(self):
        for value in NO_DICTS:
            self.causes(value, BadRule("dict"))
        for value in [*ANY, "x", "self", "q"]:
            if can_be_key(value):
                self.causes({"s": 1, value: 0}, NoName(value))
        for value in NO_AMOUNTS:
            self.causes({"s": 1, "w": value}, BadAmount(value))
        self.causes({"s": 3}, Lacking("s"))
        self.causes({"s": 1, "w": 6}, Lacking("w"))
        self.causes({"s": 1}, Lacking("s"), use="y")
        self.causes({"w": 1}, Lacking("w"), use="q")
        self.causes({"w": 1}, Lacking("w"), offers=EASY.ended("w", 4), day=5)
        self.causes({"s": 2, "w": 2}, Lacking("x"))
        self.causes({"w": 4}, Lacking("y"), use="y")
        self.causes({"s": LONG, "w": LONG}, Lacking("x"), amount=2 * LONG - 1, left=Side(s=LONG, w=LONG))

    def test_possible(self):
        for told, use, amount in [({}, "x", 0), ({"s": 0, "w": 0}, "q", 5), ({"s": 0}, "y", 1), ({"w": 3, "s": 2}, "x", 5)]:
            wanted = {a: many for a, many in told.items() if many}
            self.assertEqual(By(lambda *given: told)(use, amount, 0, Side(s=2, w=5), EASY), wanted)

    def test_the_first_cause(self):
        self.causes({"s": 1, "q": -1, "w": -1}, NoName("q"))
        self.causes({"s": -1, "q": 1}, BadAmount(-1))
        self.causes({"s": 9, "q": 1, "w": None}, Lacking("s"))
        self.causes({"w": 4, "s": True}, BadAmount(True))
        self.causes({"w": 9, "s": 9}, Lacking("w"))
        self.causes({"q": None}, NoName("q"))

    def test_errors_of_the_work_go_on(self):
        for error in (ValueError("why"), FillError("why"), Lacking("s"), BadName(5), KeyError("x")):
            def work(*told):
                raise error
            for call in (By(work), Listed({}) | By(work)):
                with self.assertRaises(type(error)) as caught:
                    call("x", 1, 0, Side(), EASY)
                self.assertIs(caught.exception, error)
                for serving in (serve, first_loss):
                    with self.assertRaises(type(error)) as caught:
                        serving(call, EASY, Side(), [Coming("x", 1)])
                    self.assertIs(caught.exception, error)

    def test_a_bad_rule_of_the_work(self):
        error = BadRule("mine")

        def work(*told):
            raise error
        with self.assertRaises(BadRule) as caught:
            serve(By(work), EASY, Side(), [Coming("x", 0), Coming("x", 0), Coming("x", 1)])
        self.assertEqual([caught.exception.part, caught.exception.__cause__], [2, error])


class Serve(Case):
    def test_by_chance(self):
        chance = random.Random(4)
        for offers in samples(8, 300):
            sources = Side.of({a: chance.randint(0, 4) for a in "abcdq"})
            comings, rule = random_comings(chance, chance.randint(0, 6)), random_rules(chance)
            told = serve(rule, offers, sources, comings)
            left, earned = sources, 0
            self.assertEqual([type(told), type(told.taken), len(told.taken)], [Served, tuple, len(comings)])
            for coming, taken in zip(comings, told.taken):
                wanted = rule(coming.use, coming.amount, coming.day, left, offers) if coming.amount else {}
                self.assertEqual([taken, all(taken.values())], [wanted, True])
                left = left - Side.of(taken)
                earned += sum(many * offers.table[a, coming.use] for a, many in taken.items())
            self.assertEqual([told.left, told.earned], [left, earned])
            self.assertEqual(serve(rule=rule, offers=offers, sources=sources, comings=tuple(comings)), told)

    def test_each_coming_calls_the_rule_once(self):
        told = []

        def work(use, amount, day, left, offers):
            told.append((use, amount, day, str(left)))
            return {"w": 1}
        comings = [Coming("x", 0), Coming("x", 2), Coming("y", 0, 3), Coming("y", 3, 3), Coming("x", LONG, 9)]
        wanted = [("x", 2, 0, "s 1 w 5"), ("y", 3, 3, "s 1 w 4"), ("x", LONG, 9, "s 1 w 3")]
        for call in (serve, first_loss):
            told.clear()
            call(By(work), EASY, Side(s=1, w=5), comings)
            self.assertEqual(told, wanted)
        self.assertEqual(serve(By(work), EASY, Side(s=1, w=5), comings).taken, ({}, {"w": 1}, {}, {"w": 1}, {"w": 1}))

    def test_nothing(self):
        told = serve(Narrowest(), EASY, Side(q=2), [])
        self.assertEqual([told.taken, told.left, told.earned], [(), Side(q=2), 0])
        self.assertEqual([hindsight(EASY, Side(), ()), first_loss(Narrowest(), EASY, Side(), [])], [0, None])
        self.assertEqual(serve(Narrowest(), Offers(Table({})), Side(s=1), [Coming("x", 3)]), Served(({},), Side(s=1), 0))

    def test_the_work_may_change_the_list(self):
        comings = [Coming("x", 1), Coming("x", 1)]

        def work(use, amount, day, left, offers):
            comings.clear()
            return {}
        for call, wanted in [(serve, Served(({}, {}), Side(s=1), 0)), (first_loss, 0)]:
            comings[:] = [Coming("x", 1), Coming("x", 1)]
            self.assertEqual(call(By(work), EASY, Side(s=1), comings), wanted)

    def wrong(self, rule, *told):
        """What serve, first_loss and hindsight raise; hindsight has no rule."""
        for call in (serve, first_loss):
            yield lambda: call(rule, *told)
        if isinstance(rule, Rule):
            yield lambda: hindsight(*told)

    def all_tell(self, error, rule, *told):
        for call in self.wrong(rule, *told):
            self.told(error, call)

    def test_wrong(self):
        for value in [*NO_RULES, Narrowest]:
            self.all_tell(BadRule("rule"), value, 5, 5, 5)
        for value in others(Offers):
            self.all_tell(BadOffer("offers"), Narrowest(), value, 5, 5)
        for value in others(Side):
            self.all_tell(BadSide("sources"), Narrowest(), EASY, value, 5)
        for value in NO_ROWS:
            self.all_tell(BadOffer("comings"), Narrowest(), EASY, Side(), value)
        for value in others(Coming):
            self.all_tell(BadOffer(1), Narrowest(), EASY, Side(), [Coming("x", 1), value, 5])
        self.all_tell(BadOffer(2), Narrowest(), EASY, Side(), (Coming("x", 1, 3), Coming("x", 1, 3), Coming("x", 1, 2)))
        self.all_tell(TooMany("comings", 40), Narrowest(), EASY, Side(), [5] * 41)

    def test_bad_rules_behind_all(self):
        self.told(BadOffer(1), serve, By(lambda *told: 5), EASY, Side(), [Coming("x", 1), 5])
        for call in (serve, first_loss):
            self.told(BadRule(3), call, By(lambda use, amount, day, *told: {} if day < 5 else 5), EASY, Side(), [
                Coming("x", 1), Coming("x", 0, 5), Coming("x", 0, 6), Coming("x", 1, 6), Coming("x", 1, 7)])

    def test_forty(self):
        comings = [Coming("xy"[k // 20], LONG, k) for k in range(40)]
        told = serve(Narrowest(), EASY, Side(s=3 * LONG, w=30 * LONG), comings)
        self.assertEqual([told.earned, told.left], [9 * LONG + 60 * LONG, Side()])
        self.assertEqual(hindsight(EASY, Side(s=3 * LONG, w=30 * LONG), comings), told.earned)
        self.all_tell(TooMany("comings", 40), Narrowest(), EASY, Side(), [*comings, comings[-1]])

    def test_served(self):
        self.is_paper(Served, ["taken", "left", "earned"], True)


class Hindsight(Case):
    def test_against_all_that_can_be_taken(self):
        chance = random.Random(5)
        for offers in samples(9, 250, top=3):
            sources = Side.of({a: chance.randint(0, 2) for a in "abcq"})
            comings = random_comings(chance, chance.randint(0, 5), top=2)
            wanted = [most(offers, sources, comings[:many]) for many in range(len(comings) + 1)]
            self.assertEqual(hindsight(offers=offers, sources=sources, comings=comings), wanted[-1])
            far = [Coming(coming.use, coming.amount * LONG, coming.day * LONG) for coming in comings]
            ended = Offers.of(offers.table, {a: end * LONG for a, end in offers.ends.items()})
            self.assertEqual(hindsight(ended, LONG * sources, far), LONG * wanted[-1])
            rule = random_rules(chance)
            earned = [serve(rule, offers, sources, comings[:many]).earned for many in range(len(comings) + 1)]
            losses = [at for at in range(len(comings)) if earned[at + 1] < wanted[at + 1]]
            self.assertEqual(first_loss(rule=rule, offers=offers, sources=sources, comings=comings), losses[0] if losses else None)

    def test_not_all_that_can_be_served_is(self):
        offers = Offers(Table({"a": {"x": 10, "y": 1}, "b": {"x": 1}}))
        comings = [Coming("x", LONG), Coming("y", LONG)]
        self.assertEqual(hindsight(offers, Side(a=LONG, b=LONG), comings), 10 * LONG)
        self.assertEqual(hindsight(offers, Side(a=LONG + 3, b=LONG), comings), 10 * LONG + 3)

    def test_far_amounts_that_are_no_multiples(self):
        chance = random.Random(6)
        offers = Offers(Table({a: {x: chance.randint(0, 10 ** 29) for x in "uvwxyz"} for a in "abcdef"}), b=9, c=20, d=30)
        comings = [Coming(chance.choice("uvwxyz"), chance.randint(1, 10 ** 30 - 1), day) for day in range(40)]
        sources = Side.of({a: chance.randint(1, 10 ** 30 - 1) for a in "abcdef"})
        earned = hindsight(offers, sources, comings)
        for rule in (Narrowest(), Dearest(), Soonest()):
            self.assertGreaterEqual(earned, serve(rule, offers, sources, comings).earned)
        self.assertEqual(hindsight(offers, sources, [Coming("x", 10 ** 30, 0)]), sum(
            many * offers.table[a, "x"] for a, many in sources) - surplus(offers, sources, "x", 10 ** 30))


def surplus(offers, sources, use, amount):
    """What the sources are worth at a use beyond an amount, those of least worth being left out."""
    over, worth = sources.total - amount, 0
    for a, many in sorted(sources, key=lambda row: offers.table[row[0], use]):
        worth += min(many, over) * offers.table[a, use]
        over -= min(many, max(over, 0))
    return worth


class RightRules(Case):
    def test_nested(self):
        chance, many = random.Random(7), 0
        for offers in samples(10, 700):
            told = nested(offers)
            if not told:
                continue
            many += bool(offers.table)
            comings = random_comings(chance, chance.randint(0, 6))
            sources = Side.of({a: chance.choice([0, 1, 2, 5]) for a in "abcd"})
            far = [Coming(coming.use, coming.amount * LONG + 1, coming.day) for coming in comings]
            for rule in (Narrowest(), Listed(told.lists), Narrowest() | Dearest(), Listed({}) | Listed(told.lists)):
                self.assertIsNone(first_loss(rule, offers, sources, comings))
                self.assertIsNone(first_loss(rule, offers, LONG * sources, far))
        self.assertGreater(many, 150)

    def test_lists_and_narrowest_take_alike_worths(self):
        chance = random.Random(8)
        for offers in samples(11, 300):
            told = nested(offers)
            if told:
                comings = random_comings(chance, 5)
                sources = Side.of({a: chance.randint(0, 3) for a in "abcd"})
                self.assertEqual(serve(Narrowest(), offers, sources, comings).earned, serve(Listed(told.lists), offers, sources, comings).earned)

    def test_others_can_lose(self):
        comings = [Coming("x", 1), Coming("y", 1)]
        self.assertEqual([first_loss(rule, EASY, Side(s=1, w=1), comings) for rule in (
            Narrowest(), Listed({"x": ["w", "s"], "y": ["w"]}), By(nothing), Listed({"x": ["s"]}))], [None, 0, 0, 1])
        self.assertEqual(first_loss(Listed({"x": ["w", "s"], "y": ["w"]}), EASY, Side(s=1, w=1), comings[1:]), None)


def split(words, sign):
    """Words parted at a sign."""
    rows = [[]]
    for word in words:
        if word == sign:
            rows.append([])
        else:
            rows[-1].append(word)
    return rows


def is_part(words):
    """Whether some words are a whole rule, which is not joined."""
    first, *rows = split(words, ";")
    if not rows:
        return first in (["narrowest"], ["dearest"], ["soonest"], ["listed"])
    uses = [row[0] for row in rows if row]
    names = all(re.fullmatch("[a-z]{1,8}", word) and word not in ("none", "self") for row in rows for word in row)
    return first == ["listed"] and all(rows) and names and uses == sorted(set(uses))


def is_text(words):
    """Whether some words are the text of a rule, but for names that stand twice in a list."""
    return all(is_part(part) for part in split(words, "|"))


def can_stand(words):
    """Whether some text begins with these words, behind which stands what could always follow there."""
    ends = [[], ["narrowest"], ["zzzzzzzz"]]
    return any(is_text(words + end) for end in ends)


class Texts(Case):
    def test_str(self):
        self.assertEqual([str(Narrowest()), str(Dearest()), str(Soonest()), str(By(len)), str(Listed({}))], [
            "narrowest", "dearest", "soonest", "by", "listed"])
        self.assertEqual(str(Listed({"y": (), "x": ["b", "a"], "w": ("c",)})), "listed ; w c ; x b a ; y")
        self.assertEqual(str(By(len) | (Listed({"x": []}) | Soonest())), "by | listed ; x | soonest")

    def test_read(self):
        chance = random.Random(9)
        for _ in range(200):
            rule = random_rules(chance)
            if "by" in str(rule).split(" "):
                self.told(BadText(0, str(rule).split(" ").index("by")), Rule.read, str(rule))
            else:
                self.assertEqual([Rule.read(text=str(rule)), str(Rule.read(str(rule)))], [rule, str(rule)])
        self.assertEqual(Rule.read("listed ; dearest listed soonest"), Listed({"dearest": ["listed", "soonest"]}))
        self.assertEqual(Narrowest.read("soonest"), Soonest())

    def test_changed_texts(self):
        words = [*JUNK, "a", "b", "|", "narrowest", "listed", "by", "Dearest", "abcdefgh"]
        for start in ["narrowest", "listed", "listed ; a", "listed ; a b a ; b", "dearest | listed ; a b", "listed ; a | soonest", "listed ; a a",
                      "listed ; b ; c b | listed ; a | dearest | listed"]:
            for text in changed(start, words):
                told = text.split(" ")
                wrong = [at for at in range(len(told)) if not can_stand(told[:at + 1])]
                if wrong:
                    self.told(BadText(0, wrong[0]), Rule.read, text)
                elif not is_text(told):
                    self.told(BadText(0, len(told)), Rule.read, text)
                else:
                    self.reads(text)

    def reads(self, text):
        rows = [row.split(" ")[1:] for part in text.split(" | ") for row in part.split(" ; ")[1:]]
        if all(len(set(row)) == len(row) for row in rows):
            self.assertEqual(str(Rule.read(text)), text)
        else:
            self.told(BadRule("twice"), Rule.read, text)

    def test_words(self):
        for text, word in [
                ("", 0), ("by", 0), ("narrowest |", 2), ("narrowest | by", 2), ("narrowest narrowest", 1), ("narrowest ; x a", 1), ("listed x", 1),
                ("listed ;", 2), ("listed ; x a ;", 5), ("listed ; x a ; x b", 5), ("listed ; y ; x", 4), ("listed ; x none", 3), ("listed ; self", 2),
                ("listed ; x a a ; w", 6), ("listed ; x A", 3), ("| narrowest", 0), ("listed ; zzzzzzzz ;", 4), ("narrowest  | dearest", 1),
                ("listed ; x a a |", 6), ("listed ; x a |  soonest", 5), ("Narrowest", 0), ("narrowest\n", 0), ("listed ; ; x", 2)]:
            self.told(BadText(0, word), Rule.read, text)

    def test_twice_behind_all_words(self):
        self.told(BadRule("twice"), Rule.read, "listed ; x a b a | narrowest")
        self.told(BadRule("twice"), Rule.read, "narrowest | listed ; x a ; y b b")
        self.told(BadText(0, 8), Rule.read, "listed ; x a b a | narrowest narrowest")

    def test_no_strings(self):
        for value in NO_STRINGS:
            self.told(BadText(0, 0), Rule.read, value)


if __name__ == "__main__":
    unittest.main()
