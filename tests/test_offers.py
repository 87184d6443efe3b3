"""Offers and comings: making them, asking them, their texts."""

import itertools
import random
import unittest

from filledrow.errors import BadAmount, BadDay, BadName, BadOffer, BadTable, BadText, NoName, TooMany
from filledrow.offers import Coming, Offers, check_comings
from filledrow.tables import Table
from tests.support import ANY, LONG, NO_AMOUNTS, NO_DICTS, NO_NAMES, NO_STRINGS, Case, can_be_key, others
from tests.test_texts import JUNK, changed, heads, table_texts

TABLE = Table({"a": {"x": 1, "y": 2}, "b": {"x": 3, "z": 0}, "c": {}})
NO_SOURCES = [value for value in ANY if not isinstance(value, str) or value != "a"]
NO_DAYS = [value for value in NO_AMOUNTS if value is not None]
ENDS = (None, 0, 1, 2)


def samples(seed, many):
    """Offers by chance; some sources without a scope, some uses without a source."""
    chance = random.Random(seed)
    for _ in range(many):
        sources, uses = "abcd"[:chance.randint(0, 4)], "xyz"[:chance.randint(0, 3)]
        scopes = {a: [x for x in uses if chance.random() < 0.6] for a in sources}
        yield Offers.of(Table.flat(scopes), {a: chance.choice(ENDS) for a in sources})


class Making(Case):
    def test_keywords(self):
        offers = Offers(TABLE, b=3, a=LONG, c=None)
        self.assertEqual([offers.table, offers.ends, len(offers), list(offers)], [TABLE, {"a": LONG, "b": 3}, 3, ["a", "b", "c"]])
        self.assertIs(offers.table, TABLE)
        self.assertEqual([offers.end("a"), offers.end("b"), offers.end(source="c")], [LONG, 3, None])
        self.assertEqual([Offers(table=TABLE, a=0).ends, Offers(TABLE).ends, Offers(Table({})).ends], [{"a": 0}, {}, {}])
        self.assertEqual([bool(Offers(TABLE)), bool(Offers(Table({}, ["x"])))], [True, False])

    def test_of(self):
        offers = Offers.of(table=TABLE, ends={"b": 3, "c": None, "a": 0})
        self.assertEqual([offers, list(offers.ends)], [Offers(TABLE, a=0, b=3), ["a", "b"]])
        self.assertEqual(Offers.of(TABLE, {}), Offers(TABLE))
        self.assertEqual(list(Offers(TABLE, b=3, a=0).ends), ["a", "b"])

    def test_a_source_called_table(self):
        table = Table({"table": {"x": 1}, "ends": {"x": 1}, "source": {"x": 2}})
        offers = Offers.of(table, {"table": 5, "ends": 1, "source": 2})
        self.assertEqual(offers.ends, {"table": 5, "ends": 1, "source": 2})
        self.assertEqual([offers.end("table"), str(offers)], [5, "x : ends 1 ; source 2 ; table 1 | ends 1 source 2 table 5"])
        self.assertEqual([Offers.read(str(offers)), offers.ended("table", None).ends], [offers, {"ends": 1, "source": 2}])
        self.assertEqual(Offers(table, ends=1, source=2), offers.ended("table", None))

    def test_no_table(self):
        for value in others(Table):
            self.told(BadTable("table"), Offers, value, q=-1)
            self.told(BadTable("table"), Offers.of, value, 5)

    def test_no_source(self):
        for value in NO_NAMES:
            if isinstance(value, str):
                self.told(NoName(value), lambda: Offers(TABLE, **{value: -1, "~": -1, "a": -1}))
                self.told(NoName(value), lambda: Offers(TABLE, **{"~": -1, value: None}))
        self.told(NoName("self"), lambda: Offers(TABLE, **{"self": 1}))
        self.told(NoName("q"), Offers, TABLE, z=1, x=1, q=1, a=-1)
        self.told(NoName("x"), Offers, Table({}), x=None)
        for value in NO_SOURCES:
            if can_be_key(value):
                self.told(NoName(value), Offers.of, TABLE, {"b": -1, value: 1, "q": 1})
        self.told(NoName("z"), Offers.of, TABLE, {"z": 1, "x": 1})

    def test_no_day(self):
        for value in NO_DAYS:
            self.told(BadDay(value), Offers, TABLE, c=-5, b=value, a=1)
            self.told(BadDay(value), Offers.of, TABLE, {"b": 1, "c": value, "a": -5})

    def test_no_dict(self):
        for value in NO_DICTS:
            self.told(BadOffer("ends"), Offers.of, TABLE, value)

    def test_they_never_change(self):
        ends = {"a": 1}
        offers = Offers.of(TABLE, ends)
        ends["b"] = 2
        offers.ends["a"] = 7
        offers.ends.clear()
        self.assertEqual([offers.ends, ends], [{"a": 1}, {"a": 1, "b": 2}])
        self.assertIsNot(offers.ends, offers.ends)
        self.assertEqual([offers.ended("a", 4).ends, offers.ends, str(offers.table)], [{"a": 4}, {"a": 1}, str(TABLE)])


class Asking(Case):
    def test_in(self):
        offers = Offers(TABLE, a=1)
        for value in [*ANY, "b", "c", "y"]:
            self.assertIs(value in offers, isinstance(value, str) and value in ("a", "b", "c"))

    def test_end(self):
        offers = Offers(TABLE, b=2)
        for value in [*NO_SOURCES, "q", "y"]:
            self.told(NoName(value), offers.end, value)

    def test_servers(self):
        offers = Offers(TABLE, a=3)
        self.assertEqual([offers.servers("x", day) for day in (0, 3, 4, LONG)], [("a", "b"), ("a", "b"), ("b",), ("b",)])
        self.assertEqual([offers.servers("y", 3), offers.servers(use="y", day=4), offers.servers("z", 0)], [("a",), (), ()])
        self.assertEqual([offers.servers("q", 0), offers.servers("a", 0), Offers(Table({})).servers("x", 0)], [(), (), ()])
        self.assertEqual(Offers(TABLE, a=0, b=LONG).servers("x", LONG), ("b",))
        for value in NO_NAMES:
            self.told(BadName(value), offers.servers, value, -1)
        for value in NO_AMOUNTS:
            self.told(BadDay(value), offers.servers, "x", value)
            self.told(BadDay(value), offers.servers, "q", value)

    def test_no_wider(self):
        told = {True: 0, False: 0}
        for offers in samples(1, 300):
            for one, other in itertools.product(offers, repeat=2):
                scope, wide = offers.table.scope(one), offers.table.scope(other)
                wanted = set(scope) <= set(wide) and (offers.end(other) is None or (
                    offers.end(one) is not None and offers.end(one) <= offers.end(other)))
                self.assertIs(offers.no_wider(one, other), wanted)
                if scope:
                    spots, more = [{(x, day) for x in "xyz" for day in range(4) if a in offers.servers(x, day)} for a in (one, other)]
                    self.assertIs(offers.no_wider(one, other), spots <= more)
                self.assertIs(offers.no_wider(one, one), True)
                told[wanted] += one != other
        self.assertGreater(min(told.values()), 100)

    def test_no_wider_than_itself(self):
        for offers in (Offers(TABLE), Offers(TABLE, a=0, b=1, c=2)):
            self.assertEqual([offers.no_wider(name, name) for name in "abc"], [True] * 3)
        self.assertEqual([Offers(TABLE, c=3).no_wider("c", "b"), Offers(TABLE, b=3).no_wider("c", "b")], [True, False])
        self.assertIs(Offers(TABLE).no_wider(one="c", other="a"), True)

    def test_no_wider_of_no_sources(self):
        offers = Offers(TABLE, a=2)
        for value in NO_SOURCES:
            self.told(NoName(value), offers.no_wider, value, 5)
            self.told(NoName(value), offers.no_wider, "a", value)
        self.told(NoName("q"), offers.no_wider, "q", "z")

    def test_ended(self):
        offers = Offers(TABLE, a=2)
        self.assertEqual([offers.ended("b", 0), offers.ended("a", None), offers.ended(source="a", day=LONG)], [
            Offers(TABLE, a=2, b=0), Offers(TABLE), Offers(TABLE, a=LONG)])
        self.assertEqual([offers.ended("b", None), offers.ended("a", 2)], [offers, offers])
        for value in NO_SOURCES:
            self.told(NoName(value), offers.ended, value, -1)
        for value in NO_DAYS:
            self.told(BadDay(value), offers.ended, "a", value)

    def test_equal(self):
        offers = Offers(TABLE, a=2)
        self.assertEqual(offers, Offers.of(Table({"c": {}, "b": {"z": 0, "x": 3}, "a": {"x": 1, "y": 2}}), {"b": None, "a": 2}))
        for other in [Offers(TABLE), Offers(TABLE, a=3), Offers(TABLE, b=2), Offers(TABLE, a=2, b=2), Offers(TABLE.without("c"), a=2)]:
            self.assertIs(offers == other, False)
        for value in ANY:
            self.assertIs(offers == value, False)


def offers_texts():
    """Texts of tables with few words, and of last days of names behind them."""
    ends = [()]
    for many in (1, 2, 3):
        for names in itertools.combinations("abz", many):
            for days in itertools.product(["0", "1", "10"], repeat=many):
                ends.append(("|", *[word for row in zip(names, days) for word in row]))
    for head in table_texts():
        if len(head) < 12:
            for end in ends:
                yield head + end


class Texts(Case):
    def test_str(self):
        self.assertEqual(str(Offers(TABLE)), "x y z : a 1 2 0 ; b 3 0 0 ; c 0 0 0")
        self.assertEqual(str(Offers(TABLE, c=0, a=12)), "x y z : a 1 2 0 ; b 3 0 0 ; c 0 0 0 | a 12 c 0")
        self.assertEqual([str(Offers(Table({}))), str(Offers(Table({"a": {}}), a=LONG))], [":", f": a | a {LONG}"])
        self.assertEqual(str(Offers(Table({"a": {}}), a=10 ** 5000)), ": a | a 1" + "0" * 5000)

    def test_read(self):
        for offers in [*samples(2, 60), Offers(TABLE, a=10 ** 5000), Offers(Table({}, ["x"])), Offers(Table({"a": {}}), a=0)]:
            self.assertEqual(Offers.read(text=str(offers)), offers)
            self.assertEqual(str(Offers.read(str(offers))), str(offers))

    def test_changed_texts(self):
        texts = set(offers_texts())
        known, words = heads(texts), [*JUNK, "a", "b", "1", "10", "|"]
        for start in [":", ": | a 1", ": a | a 1", "a : a 1 ; b 0 | a 0 b 1", "a b : a 1 10 | a 10", "a : | b 1"]:
            for text in changed(start, words):
                told = text.split(" ")
                wrong = [at for at in range(len(told)) if tuple(told[:at + 1]) not in known]
                if wrong:
                    self.told(BadText(0, wrong[0]), Offers.read, text)
                elif tuple(told) not in texts:
                    self.told(BadText(0, len(told)), Offers.read, text)
                else:
                    self.reads(told)

    def reads(self, told):
        """A text whose words can all stand is read, or the first name that is no source is told."""
        at = told.index("|") if "|" in told else len(told)
        sources = list(Table.read(" ".join(told[:at])).sources)
        strange = [name for name in told[at + 1::2] if name not in sources]
        if strange:
            self.told(NoName(strange[0]), Offers.read, " ".join(told))
        else:
            self.assertEqual(str(Offers.read(" ".join(told))), " ".join(told))

    def test_words(self):
        for text, word in [
                ("x : a 1 |", 5), ("x : a 1 | a", 6), ("x : a 1 | a -1", 6), ("x : a 1 | a 01", 6), ("x : a 1 | a none", 6),
                ("x : a 1 | a 1 a 2", 7), ("x : a 1 | b 1 a 2", 7), ("x : a 1 | none 2", 5), ("x : a 1 | a 1 |", 7),
                ("x : a 1 | a 1 ", 7), ("x : a 1 | ; a 1", 5), ("x : a 1 ; | a 1", 5), ("x : a | a 1", 3), ("x | a 1", 1), ("| a 1", 0),
                ("x : a 1  | a 1", 4), ("x : a 1 a 1", 4), (": |", 2), ("", 0), ("x : | self 1", 3), ("x : a 1 | a 1 ; b 1", 7)]:
            self.told(BadText(0, word), Offers.read, text)

    def test_what_the_class_refuses(self):
        self.told(NoName("b"), Offers.read, "x : a 1 | a 1 b 1 c 2")
        self.told(NoName("b"), Offers.read, ": | b 1 c 2")
        self.told(NoName("x"), Offers.read, "x : a 1 | x 1")
        seven = " ; ".join(f"{name} 1" for name in "abcdefg")
        self.told(TooMany("sources", 6), Offers.read, f"x : {seven} | q 1")
        self.told(TooMany("sources", 6), Offers.read, f"t u v w x y z : {' ; '.join(name + ' 1' * 7 for name in 'abcdefg')}")
        self.told(TooMany("uses", 6), Offers.read, "t u v w x y z : | q 1")
        self.told(BadText(0, 2 + 20 + 2), Offers.read, f"x : {seven} | q")

    def test_no_strings(self):
        for value in NO_STRINGS:
            self.told(BadText(0, 0), Offers.read, value)

    def test_tables_take_no_stroke(self):
        for text, word in [("x : a 1 | a 1", 4), ("x : |", 2), ("|", 0), ("x : a |", 3), ("x : a 1 ; |", 5)]:
            self.told(BadText(0, word), Table.read, text)


class Comings(Case):
    def test_attributes(self):
        for coming in (Coming("x", 3, 5), Coming(use="x", amount=3, day=5), Coming("x", day=5, amount=3)):
            self.assertEqual([coming.use, coming.amount, coming.day], ["x", 3, 5])
        for coming in (Coming("x", 0), Coming(use="x", amount=0)):
            self.assertEqual([coming.amount, coming.day], [0, 0])
        self.assertEqual(Coming("x", LONG, LONG).day, LONG)

    def test_wrong(self):
        for value in NO_NAMES:
            self.told(BadName(value), Coming, value, -1, -1)
        for value in NO_AMOUNTS:
            self.told(BadAmount(value), Coming, "x", value, -1)
            self.told(BadDay(value), Coming, "x", 1, value)
        self.told(BadName("self"), Coming, use="self", amount=-1, day=-1)

    def test_equal(self):
        self.assertEqual(Coming("x", 1), Coming("x", 1, 0))
        for other in [Coming("y", 1), Coming("x", 2), Coming("x", 1, 1), *[value for value in ANY if not isinstance(value, Coming)]]:
            self.assertIs(Coming("x", 1) == other, False)
        self.assertIs(bool(Coming("x", 0)), True)


class RowsOfComings(Case):
    def test_right(self):
        row = [Coming("x", 1), Coming("x", 1), Coming("q", 0, 3), Coming("x", 5, 3), Coming("x", 1, LONG)]
        for comings in [[], (), row, tuple(row), [Coming("x", 1, 7)] * 40]:
            before = list(comings)
            self.assertIsNone(check_comings(comings))
            self.assertIsNone(check_comings(comings=comings))
            self.assertEqual(list(comings), before)

    def test_wrong(self):
        for value in ANY:
            if not isinstance(value, (list, tuple)):
                self.told(BadOffer("comings"), check_comings, value)
        self.told(BadOffer("comings"), check_comings, {Coming: 1})
        self.told(TooMany("comings", 40), check_comings, [5] * 41)
        self.told(TooMany("comings", 40), check_comings, (Coming("x", 1),) * 41)
        for value in others(Coming):
            self.told(BadOffer(0), check_comings, [value, 5])
            self.told(BadOffer(2), check_comings, (Coming("x", 1, 3), Coming("x", 1, 3), value, Coming("x", 1, 2)))
        self.told(BadOffer(1), check_comings, [Coming("x", 1, 3), Coming("x", 1, 2), 5])
        self.told(BadOffer(39), check_comings, [Coming("x", 1, 1)] * 39 + [Coming("x", 1)])


if __name__ == "__main__":
    unittest.main()
