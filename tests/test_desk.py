"""The desk: its lines and their answers, what it refuses, runs and undoing."""

import random
import unittest

from filledrow.alike import alike
from filledrow.bars import Bars
from filledrow.best import best
from filledrow.desk import Desk
from filledrow.errors import BadBars, BadLine, BadOrder, BadText, FillError, NoPair, TooMany
from filledrow.nested import nested
from filledrow.offers import Offers
from filledrow.orders import Order
from filledrow.peels import find_order
from filledrow.ranges import worth_range
from filledrow.sides import Side
from filledrow.tables import Table
from tests.support import ANY, LONG, NO_STRINGS, SIX_BY_SIX, Case, pairs_of
from tests.test_texts import JUNK

QUESTIONS = ["show", "fill", "best", "judge", "find", "nested"]
KINDS = {"table": Table, "sources": Side, "uses": Side, "order": Order}
LINES = ["table x y z : a 1 1 0 ; b 0 1 1", "sources a 1 b 1", "uses y 1 z 1", "order a x ; b y ; a y ; b z"]

RING = Table({"a": {"x": 1, "y": 1}, "b": {"y": 1, "z": 1}, "c": {"x": 1, "z": 1}})


def state(desk):
    return [desk.ask("show"), desk.table, desk.sources, desk.uses, desk.order, len(desk)]


def random_lines(chance):
    """A table, two sides and an order, which perhaps lacks a pair in scope."""
    worths = chance.choice([[1], [1, 1, 2], [0, 1, 1, 2, 3]])
    one_worth = chance.random() < 0.4
    rows = {a: [chance.choice(worths)] * 3 if one_worth else [chance.choice(worths) for _ in "xyz"] for a in "abc"[:chance.randint(0, 3)]}
    table = Table({a: {x: worth * (chance.random() < 0.7) for x, worth in zip("xyz", row)} for a, row in rows.items()})
    if chance.random() < 0.1:
        table = RING
    sides = [Side.of({name: chance.choice([0, 1, 2, LONG]) for name in names}) for names in ("abcq", "xyzq")]
    beyond = [pair for pair in pairs_of("abq", "xyz") if pair not in table and chance.random() < 0.2]
    pairs = chance.sample([*table.pairs, *beyond], len(table) + len(beyond))
    found = find_order(Bars.best(table, pairs))
    if found and chance.random() < 0.5:
        pairs = list(found.order)
    return table, *sides, Order.of(pairs[chance.random() < 0.1:])


class Answers(Case):
    def made(self, *told):
        desk = Desk()
        self.assertEqual([desk.ask(f"{word} {value}") for word, value in zip(KINDS, told)], ["ok"] * 4)
        self.assertEqual([desk.table, desk.sources, desk.uses, desk.order, len(desk)], [*told, 4])
        return desk

    def judged(self, table, order):
        """What judge answers, written by the words of Bars."""
        if not set(table.pairs) <= set(order.pairs):
            return None
        broken = Bars.best(table, order.pairs).first_broken(order)
        return "best" if broken is None else " ".join("none" if pair is None else " ".join(pair) for pair in broken)

    def test_against_what_is_called(self):
        chance = random.Random(1)
        answers = {word: set() for word in ["judge", "find", "nested", "range", "alike"]}
        for _ in range(250):
            table, sources, uses, order = told = random_lines(chance)
            desk = self.made(*told)
            self.assertEqual(desk("show"), " | ".join(map(str, told)))
            put, most = order(sources, uses), best(table, sources, uses).filling.worth_in(table)
            self.assertEqual(desk(line="fill"), f"{put} = {put.worth_in(table)}")
            self.assertEqual(desk.ask(line="best"), f"{most} - {most - put.worth_in(table)}")
            judged = self.judged(table, order)
            if judged is None:
                self.told(BadBars("pairs"), desk.ask, "judge")
            else:
                self.assertEqual(desk.ask("judge"), judged)
                answers["judge"].add(judged.count("none") if judged != "best" else judged)
            found = find_order(Bars.best(table))
            wanted = str(found.order) if found else " ; ".join(["stuck", *[f"{a} {x}" for (a, x), bar in found.held]])
            self.assertEqual(desk.ask("find"), wanted)
            answers["find"].add(bool(found))
            wanted = {"Nested": "nested", "TwoWorths": "two worths", "Crossing": "crossing", "Dearer": "dearer"}[type(nested(Offers(table))).__name__]
            self.assertEqual(desk.ask("nested"), wanted)
            answers["nested"].add(wanted)
            self.ranges(desk, table, order, answers["range"])
            for other in [order, order[::-1], Order.of(chance.sample(order.pairs, len(order)))]:
                wanted = "yes" if alike(order, other) is None else "no"
                self.assertEqual(desk.ask(f"alike {other}"), wanted)
                answers["alike"].add(wanted)
            self.assertEqual([desk.table, desk.sources, desk.uses, desk.order, len(desk)], [*told, 4])
        self.assertEqual({word: len(told) for word, told in answers.items()}, {"judge": 3, "find": 2, "nested": 4, "range": 3, "alike": 2}, answers)

    def ranges(self, desk, table, order, answers):
        for a, x in [*order, ("q", "q")]:
            line = f"range {a} {x}"
            if not set(table.pairs) <= set(order.pairs):
                self.told(BadOrder("scope"), desk.ask, line)
            elif (a, x) not in order:
                self.told(NoPair((a, x)), desk.ask, line)
            else:
                ends = worth_range(table, order, (a, x))
                wanted = "never" if ends is None else f"{ends[0]} to on" if ends[1] is None else f"{ends[0]} to {ends[1]}"
                self.assertEqual(desk.ask(line), wanted)
                answers.add(wanted.split(" ")[-1] if wanted.split(" ")[-1] in ("never", "on") else "to")

    def test_fresh(self):
        desk = Desk()
        self.assertEqual([len(desk), bool(desk), desk.table, desk.sources, desk.uses, desk.order], [0, False, Table({}), Side(), Side(), Order()])
        self.assertEqual(desk.run(*QUESTIONS, "undo", "alike -"), [": | - | - | -", "- = 0", "0 - 0", "best", "-", "nested", "nothing", "yes"])
        self.told(NoPair(("a", "x")), desk.ask, "range a x")
        self.assertEqual([desk.run(), len(desk)], [[], 0])

    def test_great_numbers(self):
        desk = Desk()
        desk.run(f"table x : a {LONG}", f"sources a {LONG}", f"uses x {LONG - 1}", "order a x")
        self.assertEqual(desk.run("fill", "best", "judge", "range a x"), [
            f"a x {LONG - 1} = {LONG * (LONG - 1)}", f"{LONG * (LONG - 1)} - 0", "best", "1 to on"])
        great = 10 ** 5000
        zeros = "0" * 5000
        desk.run(f"table x : a 1{zeros} ; b 7", f"sources b 1{zeros}", f"uses x 1{zeros}", "order a x ; b x")
        self.assertEqual(desk.ask("fill"), f"b x 1{zeros} = 7{zeros}")
        self.assertEqual(desk.table["a", "x"], great)
        self.assertEqual([desk.ask("range b x"), desk.ask("range a x")], [f"1 to 1{zeros}", "7 to on"])

    def test_stuck(self):
        desk = Desk()
        desk.ask("table x y z : a 1 1 0 ; b 0 1 1 ; c 1 0 1")
        self.assertEqual(desk.ask("find"), "stuck ; a x ; a y ; b y ; b z ; c x ; c z")

    def test_pairs_of_other_names(self):
        desk = Desk()
        desk.run("table x : a 1", "order q r ; a x ; a q", "sources a 2 q 1", "uses q 1 x 5")
        self.assertEqual(desk.run("judge", "fill", "best", "range q r", "range a q"), ["best", "a x 2 = 2", "2 - 0", "1 to on", "1 to 1"])


class Lines(Case):
    def refuses(self, desk, error, line):
        """A line is refused, by ask and by the call, and all stays as it was."""
        before = state(desk)
        self.told(error, desk.ask, line)
        self.told(error, desk, line)
        self.told(error, desk.run, "table :", "sources a 9", "undo", "undo", line, "table :")
        self.assertEqual(state(desk), before)

    def wanted(self, line):
        """The error of a line that is no question of one word, by what the classes tell; None if there is none."""
        words = line.split(" ")
        if words[0] not in KINDS:
            return BadLine(0)
        if len(words) == 1:
            return BadLine(1)
        try:
            KINDS[words[0]].read(" ".join(words[1:]))
        except BadText as error:
            return BadLine(error.word + 1)
        except FillError as error:
            return error
        return None

    def test_changed_lines(self):
        many = {True: 0, False: 0}
        for row in LINES:
            words = row.split(" ")
            changed = [words]
            for k in range(len(words) + 1):
                changed += [words[:k], words[:k] + words[k + 1:], words[:k] + words[k:k + 2][::-1] + words[k + 2:], words[:k] + words[k:k + 1] + words[k:]]
                changed += [words[:k] + [word] + words[k + more:] for word in [*JUNK, "a", "x", "1"] for more in (0, 1)]
            for told in changed:
                line = " ".join(told)
                desk, error = Desk(), self.wanted(line)
                desk.run(*LINES)
                if error is None:
                    self.assertEqual([desk.ask(line), len(desk)], ["ok", 5])
                    self.assertEqual(str(getattr(desk, told[0])), " ".join(told[1:]))
                else:
                    self.refuses(desk, error, line)
                many[error is None] += 1
        self.assertGreater(min(many.values()), 20)

    def test_words(self):
        desk = Desk()
        desk.run(*LINES)
        for line, word in [
                ("", 0), (" ", 0), ("Show", 0), ("shows", 0), (" show", 0), ("show ", 1), ("show show", 1), ("undo undo", 1), ("fill 1", 1), ("best a b", 1),
                ("judge -", 1), ("find  ", 1), ("nested x", 1), ("table", 1), ("table ", 1), ("table x", 2), ("table x : a", 4), ("sources", 1), ("sources a", 2),
                ("sources a 0", 2), ("uses x 1 w 1", 3), ("order", 1), ("order a x ; b", 5), ("order a x b", 3), ("order - -", 2), ("range", 1), ("range ", 1),
                ("range a", 2), ("range a ", 2), ("range a x y", 3), ("range a x ", 3), ("range A x", 1), ("range none x", 1), ("range a self", 2), ("range - x", 1),
                ("alike", 1), ("alike a", 2), ("alike a x ;", 4), ("alike a x ; b y x", 6), ("show\n", 0), ("table :\n", 1), ("sources a 1\nuses x 1", 2), ("twin", 0)]:
            self.refuses(desk, BadLine(word), line)

    def test_no_strings(self):
        desk = Desk()
        desk.run(*LINES)
        for value in [*NO_STRINGS, *[value for value in ANY if isinstance(value, str)]]:
            self.refuses(desk, BadLine(0), value)

    def test_what_is_called_raises(self):
        desk = Desk()
        desk.run(*LINES)
        self.refuses(desk, TooMany("uses", 6), "table t u v w x y z :")
        self.refuses(desk, BadOrder("twice"), "order a x ; b y ; a x")
        self.refuses(desk, BadOrder("twice"), "alike a x ; b y ; a x")
        self.refuses(desk, TooMany("pairs", 36), "order " + " ; ".join(f"{a} {x}" for a, x in (*SIX_BY_SIX, ("g", "u"))))
        self.refuses(desk, BadOrder("other"), "alike a x")
        self.refuses(desk, BadOrder("other"), "alike -")
        self.refuses(desk, NoPair(("a", "z")), "range a z")
        desk.ask("order a x")
        self.refuses(desk, BadBars("pairs"), "judge")
        self.refuses(desk, BadOrder("scope"), "range a x")
        self.refuses(desk, BadOrder("scope"), "range q q")


class Runs(Case):
    def test_all_or_none(self):
        desk = Desk()
        self.assertEqual(desk.run(*LINES, "fill", "undo", "show"), ["ok", "ok", "ok", "ok", "b y 1 = 1", "ok", f"{LINES[0][6:]} | a 1 b 1 | y 1 z 1 | -"])
        before = state(desk)
        for rows, error in [(["order a x", "judge", "table :"], BadBars("pairs")), (["undo", "undo", "undo", "undo", "undo", "what"], BadLine(0)),
                            ([*LINES, 5], BadLine(0)), (["undo", "sources a 5", "undo", "uses"], BadLine(1)), ([None], BadLine(0))]:
            self.told(error, desk.run, *rows)
            self.assertEqual(state(desk), before)

    def test_undo(self):
        desk = Desk()
        rows = [*LINES, "sources a 1 b 1", "table :", "order -", "order -"]
        before = []
        for row in rows:
            before.append(state(desk))
            self.assertEqual(desk.ask(row), "ok")
        self.assertEqual(len(desk), 8)
        for told in before[::-1]:
            self.assertEqual([desk.ask("undo"), state(desk)], ["ok", told])
        self.assertEqual([desk.ask("undo"), desk.ask("undo"), len(desk)], ["nothing", "nothing", 0])

    def test_undo_within_a_run(self):
        desk = Desk()
        self.assertEqual(desk.run("sources a 1", "undo", "undo", "sources b 1", "show"), ["ok", "ok", "nothing", "ok", ": | b 1 | - | -"])
        self.assertEqual([desk.run("undo", "undo"), len(desk), str(desk.sources)], [["ok", "nothing"], 0, "-"])

    def test_undo_by_chance(self):
        chance = random.Random(2)
        desk, before = Desk(), []
        for _ in range(400):
            line = chance.choice([*LINES, "sources -", "uses q 5", "order a x", "table x : a 1", "undo", "undo", "undo", *QUESTIONS[:3], "judge", "nope"])
            now = state(desk)
            try:
                answer = desk.ask(line)
            except FillError:
                self.assertEqual(state(desk), now)
                continue
            if line == "undo":
                self.assertEqual(answer, "ok" if before else "nothing")
                self.assertEqual(state(desk), before.pop() if before else now)
            elif line.split(" ")[0] in KINDS:
                before.append(now)
            self.assertEqual(len(desk), len(before))

    def test_what_a_desk_shows_told_to_new_desks(self):
        chance = random.Random(3)
        for _ in range(80):
            desk, other = Desk(), Desk()
            desk.run(*[f"{word} {value}" for word, value in zip(KINDS, random_lines(chance))])
            told = other.run(*[f"{word} {value}" for word, value in zip(KINDS, desk.ask("show").split(" | "))])
            self.assertEqual([told, other.ask("show")], [["ok"] * 4, desk.ask("show")])
            lines = ["fill", "best", "judge", "find", "nested", *[f"range {a} {x}" for a, x in desk.order], f"alike {desk.order[::-1]}"]
            for line in lines:
                try:
                    answer = desk.ask(line)
                except FillError as error:
                    self.told(error, other.ask, line)
                else:
                    self.assertEqual(other.ask(line), answer)

    def test_two_desks_go_their_own_ways(self):
        one, other = Desk(), Desk()
        one.run(*LINES)
        self.assertEqual([other.ask("show"), len(other), one == other, one == one], [": | - | - | -", 0, False, True])


if __name__ == "__main__":
    unittest.main()
