"""Ledgers against a plain model that is told the same deeds; undo, trials, and what raises."""

import random
import unittest

from filledrow.errors import BadAmount, BadLedger, BadName, BadPair, FillError, Lacking, NoChange, NoName
from filledrow.fillings import Filling
from filledrow.ledger import Ledger
from filledrow.nested import narrow_order, nested
from filledrow.offers import Offers
from filledrow.orders import Order
from filledrow.sides import Side
from filledrow.tables import Table
from tests.support import ANY, LONG, NO_AMOUNTS, NO_PAIRS, Case, others, pairs_of
from tests.test_nested import samples

TABLE = Table({"a": {"x": 3, "y": 2}, "b": {"y": 1, "z": 4}, "c": {}}, ["w"])
ORDER = Order(("a", "x"), ("b", "z"), ("a", "y"), ("b", "y"))
NAMES = pairs_of("abc", "wxyz")


class Model:
    """A ledger of dicts, which goes unit by unit where it is easier to be sure."""

    def __init__(self, table, order):
        self.table, self.order = table, list(order)
        self.sources, self.uses, self.put = {a: 0 for a in table.sources}, {x: 0 for x in table.uses}, {}

    def free(self, a):
        return self.sources[a] - sum(many for pair, many in self.put.items() if pair[0] == a)

    def open_now(self, x):
        return self.uses[x] - sum(many for pair, many in self.put.items() if pair[1] == x)

    def go_on(self):
        added = {}
        for a, x in self.order:
            added[a, x] = min(self.free(a), self.open_now(x))
            self.put[a, x] = self.put.get((a, x), 0) + added[a, x]
        return Filling(added)

    def credit(self, a, amount):
        self.sources[a] += amount
        return self.go_on()

    def bill(self, x, amount):
        self.uses[x] += amount
        return self.go_on()

    def lapse(self, a):
        many = self.free(a)
        self.sources[a] -= many
        return many

    def cancel(self, x, amount):
        struck = {}
        for _ in range(amount):
            if self.open_now(x) == 0:
                held = [pair for pair, many in self.put.items() if many and pair[1] == x]
                strange = sorted(pair for pair in held if pair not in self.order)
                pair = strange[-1] if strange else max(held, key=self.order.index)
                self.put[pair] -= 1
                struck[pair] = struck.get(pair, 0) + 1
            self.uses[x] -= 1
        self.go_on()
        return Filling(struck)

    def refill(self):
        before, self.put = self.put, {}
        self.go_on()
        less = {pair: many - self.put.get(pair, 0) for pair, many in before.items()}
        more = {pair: many - before.get(pair, 0) for pair, many in self.put.items()}
        return tuple(Filling({pair: max(many, 0) for pair, many in told.items()}) for told in (less, more))

    def most(self, pair):
        """The greatest amount that a pair can have by hand."""
        return self.put.get(pair, 0) + min(self.free(pair[0]), self.open_now(pair[1]))

    def seen(self):
        return [Side.of(self.sources), Side.of(self.uses), Filling(self.put)]


def seen(ledger):
    return [ledger.sources, ledger.uses, ledger.filling]


def state(ledger):
    """All that a ledger tells."""
    return [str(ledger.rates), str(ledger.way), *[str(part) for part in seen(ledger)], str(ledger.free), str(ledger.open_now),
            str(ledger.refilled()), ledger.gap(), list(ledger), len(ledger)]


def random_ledger(chance):
    rows = {a: {x: chance.choice([0, 1, 2, 3]) for x in "xyz"} for a in "abc"[:chance.randint(1, 3)]}
    table = Table(rows)
    return Ledger(table, Order.of(chance.sample(table.pairs, len(table))))


def random_deed(chance, ledger, top=4):
    """The name of a deed and its arguments; the amounts fit."""
    a, x = chance.choice(ledger.rates.sources), chance.choice(ledger.rates.uses)
    many = chance.randint(0, top)
    word = chance.choice("credit credit credit bill bill bill lapse cancel cancel cancel refill put put order table".split())
    known = chance.choice(ledger.uses.names or (x,))
    told = {"credit": [a, many], "bill": [x, many], "lapse": [a], "refill": [], "cancel": [known, chance.randint(0, ledger.uses[known])],
            "put": [(a, x), chance.randint(0, ledger[a, x] + min(ledger.free[a], ledger.open_now[x]))],
            "order": [Order.of(chance.sample(ledger.rates.pairs, len(ledger.rates)))],
            "table": [Table({b: {y: chance.randint(1, 5) * ((b, y) in ledger.rates) for y in ledger.rates.uses} for b in ledger.rates.sources})]}
    return word, told[word]


def do(ledger, word, told):
    """Does a deed to a ledger, by name."""
    if word == "put":
        ledger[told[0]] = told[1]
    elif word == "order":
        ledger.set_way(*told)
    elif word == "table":
        ledger.set_rates(*told)
    else:
        return getattr(ledger, word)(*told)


def model_do(model, word, told):
    """Does a deed to a model."""
    if word == "put":
        model.put[told[0]] = told[1]
    elif word == "order":
        model.order = list(told[0])
    elif word == "table":
        model.table = told[0]
    else:
        return getattr(model, word)(*told)


class Deeds(Case):
    def test_against_a_model(self):
        chance = random.Random(1)
        struck = 0
        for _ in range(150):
            ledger = random_ledger(chance)
            model, words = Model(ledger.rates, ledger.way), []
            for _ in range(20):
                word, told = random_deed(chance, ledger)
                answer, wanted = do(ledger, word, told), model_do(model, word, told)
                words.append(word)
                self.assertEqual([answer, type(answer), seen(ledger)], [wanted, type(wanted), model.seen()])
                self.assertEqual([list(ledger), len(ledger), ledger.rates, list(ledger.way)], [words, len(words), model.table, model.order])
                for a in ledger.rates.sources:
                    self.assertEqual(ledger.free[a], model.free(a))
                for x in ledger.rates.uses:
                    self.assertEqual(ledger.open_now[x], model.open_now(x))
                refilled = ledger.way(ledger.sources, ledger.uses)
                self.assertEqual([ledger.refilled(), ledger.gap()], [refilled, refilled.worth_in(ledger.rates) - ledger.filling.worth_in(ledger.rates)])
                self.assertIs(ledger.filling.fits(ledger.sources, ledger.uses), True)
                if word in ("credit", "bill", "cancel", "refill"):
                    self.assertEqual([(a, x) for a, x in ledger.rates.pairs if ledger.free[a] and ledger.open_now[x]], [])
                struck += word == "cancel" and len(answer) > 1
        self.assertGreater(struck, 10)

    def test_fresh(self):
        ledger = Ledger(table=TABLE, order=ORDER)
        self.assertEqual([str(part) for part in seen(ledger)], ["-", "-", "-"])
        self.assertEqual([ledger.rates, ledger.way, len(ledger), list(ledger), bool(ledger), ledger.gap()], [TABLE, ORDER, 0, [], False, 0])
        self.assertEqual(list(vars(ledger))[:3], ["sources", "uses", "filling"])
        empty = Ledger(Table({}), Order())
        self.assertEqual([[str(told) for told in empty.refill()], len(empty), bool(empty)], [["-", "-"], 1, True])

    def test_thirty_digits(self):
        ledger = Ledger(TABLE, ORDER)
        self.assertEqual([str(ledger.credit(source="a", amount=3 * LONG)), str(ledger.bill(use="y", amount=LONG)), str(ledger.bill("x", 5 * LONG))],
                         ["-", f"a y {LONG}", f"a x {2 * LONG}"])
        self.assertEqual([str(told) for told in ledger.refill()], [f"a y {LONG}", f"a x {LONG}"])
        self.assertEqual(str(ledger.cancel(use="x", amount=4 * LONG)), f"a x {2 * LONG}")
        self.assertEqual([str(ledger.filling), ledger.lapse(source="a")], [f"a x {LONG} ; a y {LONG}", LONG])
        ledger["a", "w"] = 0
        self.assertEqual([ledger.free.total, str(ledger.sources)], [0, f"a {2 * LONG}"])

    def test_deeds_that_change_nothing(self):
        ledger = Ledger(TABLE, ORDER)
        self.assertEqual([ledger.credit("c", 0), ledger.bill("w", 0), ledger.lapse("a"), ledger.cancel("x", 0), ledger.refill()], [
            Filling({}), Filling({}), 0, Filling({}), (Filling({}), Filling({}))])
        ledger["c", "w"] = 0
        ledger.way, ledger.rates = ORDER, TABLE
        words = ["credit", "bill", "lapse", "cancel", "refill", "put", "order", "table"]
        self.assertEqual([list(ledger), seen(ledger)], [words, [Side(), Side(), Filling({})]])
        self.assertEqual([ledger.undo() for _ in words], words[::-1])
        self.told(NoChange(), ledger.undo)

    def test_what_is_struck(self):
        table = Table.flat({"a": ["x"], "b": ["x"], "d": ["x", "y"], "c": [], "e": []})
        ledger = Ledger(table, Order(("d", "x"), ("a", "x"), ("b", "x"), ("d", "y")))
        for name in "abcde":
            ledger.credit(name, 1)
        ledger.bill("x", 3)
        ledger.bill("x", 3)
        ledger["c", "x"] = 1
        ledger["e", "x"] = 1
        self.assertEqual(str(ledger.filling), "a x 1 ; b x 1 ; c x 1 ; d x 1 ; e x 1")
        rows = [str(ledger.tried(lambda same: same.cancel("x", many))) for many in range(1, 7)]
        self.assertEqual(rows, ["-", "e x 1", "c x 1 ; e x 1", "b x 1 ; c x 1 ; e x 1", "a x 1 ; b x 1 ; c x 1 ; e x 1", str(ledger.filling)])
        ledger.bill("y", 2)
        self.assertEqual([str(ledger.cancel("x", 6)), str(ledger.filling)], ["a x 1 ; b x 1 ; c x 1 ; d x 1 ; e x 1", "d y 1"])

    def test_strange_pairs_of_other_uses_stay(self):
        ledger = Ledger(TABLE, ORDER)
        ledger.credit("c", 5)
        ledger.credit("a", 5)
        for use in "wxyz":
            ledger.bill(use, 2)
            ledger["c", use] = ledger.open_now[use]
        self.assertEqual(str(ledger.filling), "a x 2 ; a y 2 ; c w 2 ; c z 2")
        self.assertEqual([str(ledger.cancel("x", 1)), str(ledger.cancel("w", 1)), str(ledger.cancel("y", 2))], ["a x 1", "c w 1", "a y 2"])
        self.assertEqual(str(ledger.filling), "a x 1 ; c w 1 ; c z 2")

    def test_lapses_do_not_go_on(self):
        ledger = Ledger(TABLE, ORDER)
        ledger.credit("b", 2)
        ledger.bill("y", 2)
        ledger["b", "y"] = 0
        self.assertEqual([ledger.lapse("b"), str(ledger.sources), str(ledger.open_now)], [2, "-", "y 2"])
        ledger.credit("b", 1)
        self.assertEqual(str(ledger.filling), "b y 1")

    def test_by_hand(self):
        ledger = Ledger(TABLE, ORDER)
        ledger.credit("a", 5)
        ledger.bill("w", 3)
        ledger.bill("x", 1)
        ledger["a", "w"] = 2
        self.assertEqual([str(ledger.filling), ledger["a", "w"], ledger["a", "x"], str(ledger.free), str(ledger.open_now)], ["a w 2 ; a x 1", 2, 1, "a 2", "w 1"])
        ledger["a", "w"] = 3
        ledger["a", "x"] = 0
        self.assertEqual([str(ledger.filling), str(ledger.open_now), ledger.gap()], ["a w 3", "x 1", 3])
        self.assertEqual([str(told) for told in ledger.refill()], ["a w 3", "a x 1"])

    def test_items_of_any_values(self):
        ledger = Ledger(TABLE, ORDER)
        ledger.credit("a", 5)
        ledger.bill("x", 2)
        self.assertEqual(ledger["a", "x"], 2)
        for value in [*NO_PAIRS, ("x", "a"), ("a", "q")]:
            self.assertEqual(ledger[value], 0)

    def test_order_and_table(self):
        ledger = Ledger(TABLE, ORDER)
        ledger.credit("a", 1)
        ledger.bill("y", 1)
        before = ledger.filling
        ledger.way = ORDER[::-1]
        ledger.rates = 5 * TABLE
        self.assertEqual([ledger.way, ledger.rates, ledger.filling, list(ledger)[2:]], [ORDER[::-1], 5 * TABLE, before, ["order", "table"]])
        ledger.set_way(order=ORDER)
        ledger.set_rates(table=TABLE)
        self.assertEqual([ledger.way, ledger.rates, list(ledger)[4:]], [ORDER, TABLE, ["order", "table"]])
        self.assertEqual([ledger.set_way(ORDER), ledger.set_rates(TABLE)], [None, None])

    def test_equal(self):
        def made(way=ORDER, rates=TABLE, deeds=(("credit", "a"), ("bill", "x"))):
            ledger = Ledger(rates, way)
            for word, name in deeds:
                getattr(ledger, word)(name, 2)
            return ledger
        ledger = made()
        self.assertEqual(ledger, made(deeds=(("bill", "x"), ("credit", "a"))))
        for other in [made(ORDER[::-1]), made(ORDER, 2 * TABLE), made(deeds=(("credit", "a"),)), made(deeds=(("bill", "x"),)),
                      made(deeds=(("credit", "a"), ("bill", "x"), ("bill", "w"))), made(deeds=(("credit", "a"), ("bill", "x"), ("credit", "c"))), *ANY]:
            self.assertIs(ledger == other, False)
        other = made()
        other["a", "x"] = 1
        self.assertIs(ledger == other, False)

    def test_twin(self):
        ledger = Ledger(TABLE, ORDER)
        ledger.credit("a", 2)
        ledger["a", "w"] = 0
        twin = ledger.twin()
        self.assertEqual([twin == ledger, len(twin), type(twin)], [True, 0, Ledger])
        self.told(NoChange(), twin.undo)
        ledger.bill("x", 1)
        self.assertEqual([str(twin.filling), twin == ledger], ["-", False])
        twin.bill("x", 1)
        twin.way = ORDER[::-1]
        self.assertEqual([list(ledger), ledger.way, list(twin)], [["credit", "put", "bill"], ORDER, ["bill", "order"]])


class Wrong(Case):
    def test_making(self):
        for value in others(Table):
            self.told(BadLedger("table"), Ledger, value, value)
        for value in [*[value for value in ANY if not isinstance(value, Order)], *self.orders()]:
            self.told(BadLedger("order"), Ledger, TABLE, value)

    def orders(self):
        return [ORDER[1:], ORDER + Order(("c", "w")), ORDER[1:] + Order(("a", "z")), Order()]

    def tables(self):
        return [TABLE.with_worth("a", "z", 1), TABLE.with_worth("a", "x", 0), TABLE.without("c"), TABLE.without("w"), TABLE.with_worth("d", "x", 0),
                TABLE.with_worth("a", "q", 0), Table({}), TABLE.with_worth("a", "x", 0).with_worth("a", "z", 1)]

    def ledger(self):
        ledger = Ledger(TABLE, ORDER)
        ledger.credit("a", 5)
        ledger.bill("x", 2)
        ledger.bill("y", 1)
        ledger.bill("z", 3)
        return ledger

    def unchanged(self, error, call, *told):
        """A call that raises changes nothing, also not the deeds."""
        before = state(self.kept)
        self.told(error, call, *told)
        self.assertEqual(state(self.kept), before)

    def setting(self, ledger, name):
        return lambda value: setattr(ledger, name, value)

    def test_deeds(self):
        self.kept = ledger = self.ledger()
        for value in [*ANY, "x", "q", "none"]:
            if value != "a" or not isinstance(value, str):
                self.unchanged(NoName(value), ledger.credit, value, -1)
                self.unchanged(NoName(value), ledger.lapse, value)
            if value != "x" or not isinstance(value, str):
                self.unchanged(NoName(value), ledger.bill, value, -1)
                self.unchanged(NoName(value), ledger.cancel, value, -1)
        for value in NO_AMOUNTS:
            self.unchanged(BadAmount(value), ledger.credit, "a", value)
            self.unchanged(BadAmount(value), ledger.bill, "x", value)
            self.unchanged(BadAmount(value), ledger.cancel, "x", value)
        self.unchanged(Lacking("x"), ledger.cancel, "x", 3)
        self.unchanged(Lacking("w"), ledger.cancel, "w", LONG)

    def test_by_hand(self):
        self.kept = ledger = self.ledger()
        for value in [*NO_PAIRS, ("x", "a"), ("a", "q"), ("q", "x"), ("a", "a"), ["a", "x"]]:
            self.unchanged(BadPair(value), ledger.__setitem__, value, -1)
        for value in NO_AMOUNTS:
            self.unchanged(BadAmount(value), ledger.__setitem__, ("a", "z"), value)
        self.unchanged(Lacking("b"), ledger.__setitem__, ("b", "z"), 1)
        self.unchanged(Lacking("a"), ledger.__setitem__, ("a", "w"), 3)
        self.unchanged(Lacking("w"), ledger.__setitem__, ("a", "w"), 2)
        self.unchanged(Lacking("x"), ledger.__setitem__, ("a", "x"), 3)
        self.unchanged(Lacking("a"), ledger.__setitem__, ("a", "x"), 5)
        both = Ledger(Table({"a": {"a": 1}}), Order(("a", "a")))
        self.told(Lacking("a"), both.__setitem__, ("a", "a"), 1)

    def test_settings(self):
        self.kept = ledger = self.ledger()
        for value in [*[value for value in ANY if not isinstance(value, Order)], *self.orders()]:
            self.unchanged(BadLedger("order"), ledger.set_way, value)
            self.unchanged(BadLedger("order"), self.setting(ledger, "way"), value)
        for value in [*others(Table), *self.tables()]:
            self.unchanged(BadLedger("table"), ledger.set_rates, value)
            self.unchanged(BadLedger("table"), self.setting(ledger, "rates"), value)
        for name in ("free", "open_now"):
            with self.assertRaises(AttributeError):
                setattr(ledger, name, Side())


class Undoing(Case):
    def test_back_through_all(self):
        chance = random.Random(2)
        for _ in range(60):
            ledger = random_ledger(chance)
            before = []
            for _ in range(25):
                if before and chance.random() < 0.3:
                    word, told = before.pop()
                    self.assertEqual([ledger.undo(), state(ledger)], [word, told])
                else:
                    word, told = random_deed(chance, ledger)
                    before.append((word, state(ledger)))
                    do(ledger, word, told)
                self.assertEqual(list(ledger), [word for word, _ in before])
            for word, told in before[::-1]:
                self.assertEqual([ledger.undo(), state(ledger)], [word, told])
            self.told(NoChange(), ledger.undo)

    def test_many(self):
        ledger = Ledger(TABLE, ORDER)
        for k in range(3000):
            ledger.credit("a", 1)
        self.assertEqual([len(ledger), ledger.free.total], [3000, 3000])
        for k in range(3000):
            ledger.undo()
        self.assertEqual([len(ledger), ledger.free.total], [0, 0])


class TrialCase(Case):
    """What the tests of trials share."""

    def made(self):
        ledger = Ledger(TABLE, ORDER)
        ledger.credit("a", 2)
        ledger.bill("y", 1)
        return ledger

    def change(self, ledger):
        """Deeds of all kinds, also undoing those from ahead."""
        ledger.undo()
        ledger.undo()
        ledger.credit("b", 3)
        ledger.bill("w", 1)
        ledger["b", "w"] = 1
        ledger.lapse("b")
        ledger.refill()
        ledger.cancel("w", 1)
        ledger.way, ledger.rates = ORDER[::-1], 2 * TABLE


class Trials(TrialCase):
    def test_not_kept(self):
        ledger = self.made()
        before, twin = state(ledger), ledger.twin()
        with ledger.trial() as same:
            self.assertIs(same.ledger, ledger)
            self.change(ledger)
            self.assertNotEqual(ledger, twin)
        self.assertEqual([state(ledger), ledger == twin], [before, True])
        self.assertEqual([ledger.undo(), ledger.undo()], ["bill", "credit"])

    def test_kept(self):
        ledger, other = self.made(), self.made()
        with ledger.trial() as same:
            self.change(ledger)
            self.assertIsNone(same.keep())
            ledger.credit("a", 1)
        self.change(other)
        other.credit("a", 1)
        self.assertEqual([state(ledger), same.ledger], [state(other), ledger])

    def test_an_error_leaves_it(self):
        for error in (ValueError("why"), Lacking("x"), KeyboardInterrupt()):
            for is_kept in (False, True):
                ledger = self.made()
                before = state(ledger)
                with self.assertRaises(type(error)) as caught:
                    with ledger.trial() as same:
                        self.change(ledger)
                        if is_kept:
                            same.keep()
                        raise error
                self.assertIs(caught.exception, error)
                self.assertEqual(state(ledger), before)

    def test_each_time_anew(self):
        ledger = self.made()
        trial = ledger.trial()
        trial.keep()
        before = state(ledger)
        with trial as same:
            ledger.credit("a", 1)
        self.assertEqual([state(ledger), same.ledger], [before, ledger])
        with trial:
            ledger.credit("a", 1)
            trial.keep()
        later = state(ledger)
        self.assertEqual(len(ledger), 3)
        with trial:
            ledger.credit("b", 1)
        self.assertEqual(state(ledger), later)
        trial.keep()
        self.assertEqual(state(ledger), later)

    def test_left_early(self):
        ledger = self.made()

        def early():
            with ledger.trial() as same:
                ledger.credit("a", 1)
                if len(ledger) > 3:
                    same.keep()
                return len(ledger)
        self.assertEqual([early(), len(ledger)], [3, 2])
        ledger.credit("c", 1)
        self.assertEqual([early(), len(ledger)], [4, 4])

    def test_trials_in_trials(self):
        for outer_kept in (False, True):
            for inner_kept in (False, True):
                ledger = self.made()
                before = state(ledger)
                with ledger.trial() as outer:
                    ledger.credit("a", 1)
                    middle = state(ledger)
                    with ledger.trial() as inner:
                        self.change(ledger)
                        changed = state(ledger)
                        if inner_kept:
                            inner.keep()
                    self.assertEqual(state(ledger), changed if inner_kept else middle)
                    if outer_kept:
                        outer.keep()
                wanted = before if not outer_kept else changed if inner_kept else middle
                self.assertEqual(state(ledger), wanted)

    def test_one_trial_within_itself(self):
        ledger = self.made()
        before, trial = state(ledger), ledger.trial()
        with trial:
            ledger.credit("a", 1)
            middle = state(ledger)
            with trial:
                ledger.credit("b", 1)
            self.assertEqual(state(ledger), middle)
        self.assertEqual(state(ledger), before)
        with trial:
            ledger.credit("a", 1)
            trial.keep()
            with trial:
                ledger.credit("b", 1)
            self.assertEqual(state(ledger), middle)
        self.assertEqual(state(ledger), middle)

    def test_an_error_that_is_caught_within(self):
        ledger = self.made()
        with ledger.trial() as outer:
            ledger.credit("a", 1)
            middle = state(ledger)
            with self.assertRaises(NoName):
                with ledger.trial() as inner:
                    inner.keep()
                    ledger.credit("b", 1)
                    ledger.credit("q", 1)
            self.assertEqual(state(ledger), middle)
            outer.keep()
        self.assertEqual(state(ledger), middle)

    def test_two_ledgers(self):
        one, other = self.made(), self.made()
        before = state(one)
        with one.trial(), other.trial() as kept:
            one.credit("a", 1)
            other.credit("a", 1)
            kept.keep()
        self.assertEqual([state(one), len(other)], [before, 3])


class Trying(TrialCase):
    def test_tried(self):
        ledger = self.made()
        before = state(ledger)
        self.assertEqual(ledger.tried(work=lambda same: (self.change(same), same is ledger, state(same) == before)), (None, True, False))
        self.assertEqual(state(ledger), before)
        self.assertEqual([ledger.tried(len), ledger.tried(lambda same: same.tried(lambda again: again.lapse("a")))], [2, 1])
        self.assertEqual(state(ledger), before)

    def test_tried_with_an_error(self):
        for error in (ValueError("why"), Lacking("x"), FillError("why"), KeyboardInterrupt()):
            ledger = self.made()
            before = state(ledger)

            def work(same):
                self.change(same)
                raise error
            with self.assertRaises(type(error)) as caught:
                ledger.tried(work)
            self.assertEqual([caught.exception, state(ledger)], [error, before])

    def test_attempt(self):
        ledger, other = self.made(), self.made()
        self.assertEqual(ledger.attempt(work=lambda same: (self.change(same), same is ledger)), (None, True))
        self.change(other)
        self.assertEqual(state(ledger), state(other))
        self.assertEqual([ledger.undo(), ledger.undo(), ledger.attempt(lambda same: None)], ["table", "order", None])

    def test_attempt_with_an_error(self):
        for error in (Lacking("x"), FillError("why"), BadLedger("work"), BadName(5)):
            ledger = self.made()
            before = state(ledger)

            def work(same):
                self.change(same)
                raise error
            with self.assertRaises(BadLedger) as caught:
                ledger.attempt(work)
            self.assertEqual([caught.exception.part, caught.exception.__cause__, state(ledger)], ["work", error, before])
            with self.assertRaises(BadLedger) as caught:
                ledger.attempt(lambda same: same.attempt(work))
            self.assertEqual([type(caught.exception.__cause__), caught.exception.__cause__.__cause__, state(ledger)], [BadLedger, error, before])
        for error in (ValueError("why"), KeyError("x"), KeyboardInterrupt()):
            ledger = self.made()
            before = state(ledger)

            def work_on(same):
                self.change(same)
                raise error
            with self.assertRaises(type(error)) as caught:
                ledger.attempt(work_on)
            self.assertEqual([caught.exception, state(ledger)], [error, before])

    def test_in_each_other(self):
        ledger = self.made()
        before = state(ledger)

        def work(same):
            same.attempt(lambda again: again.credit("a", 1))
            same.tried(lambda again: again.credit("a", 5))
            with same.trial() as block:
                same.credit("b", 1)
                block.keep()
            return list(same)
        self.assertEqual([ledger.tried(work), state(ledger)], [["credit", "bill", "credit", "credit"], before])
        self.assertEqual([ledger.attempt(work), len(ledger)], [["credit", "bill", "credit", "credit"], 4])


class Nested(Case):
    def test_nothing_is_lost(self):
        chance, many = random.Random(3), 0
        for offers in samples(31, 500):
            told = nested(Offers(offers.table))
            if not told:
                continue
            order = narrow_order(Offers(offers.table))
            ledger = Ledger(offers.table, order)
            for a in offers.table.sources:
                ledger.credit(a, chance.choice([0, 1, 3, LONG]))
            for _ in range(6):
                if offers.table.uses:
                    ledger.bill(chance.choice(offers.table.uses), chance.choice([0, 1, 2, LONG]))
                    self.assertEqual(ledger.gap(), 0)
                    many += 1
            before = ledger.filling
            ledger.refill()
            self.assertEqual([ledger.gap(), ledger.filling.worth_in(offers.table)], [0, before.worth_in(offers.table)])
        self.assertGreater(many, 500)

    def test_refilling_leaves_no_gap(self):
        chance = random.Random(4)
        for _ in range(150):
            ledger = random_ledger(chance)
            for _ in range(10):
                do(ledger, *random_deed(chance, ledger, LONG))
            less, more = ledger.refill()
            self.assertEqual([ledger.gap(), ledger.filling], [0, ledger.refilled()])
            self.assertEqual(less & more, Filling({}))
            self.assertEqual(ledger.refill(), (Filling({}), Filling({})))

    def test_the_gap_can_be_below_0(self):
        table = Table({"a": {"x": 1, "y": 9}})
        ledger = Ledger(table, Order(("a", "x"), ("a", "y")))
        ledger.credit("a", 1)
        ledger.bill("y", 1)
        ledger.bill("x", 1)
        self.assertEqual([ledger.gap(), str(ledger.refill()[0])], [-8, "a y 1"])


if __name__ == "__main__":
    unittest.main()
