"""The interface: names, arguments, and where each class, method and function is defined."""

import importlib
import inspect
import unittest

SIGNS = {
    "tables.Table": "__init__ __len__ __iter__ __contains__ __getitem__ __add__ __or__ __and__ __mul__ __rmul__ __floordiv__"
                    " __mod__ __invert__ __le__ __lt__ __ge__ __gt__ __eq__ __str__",
    "sides.Side": "__init__ __getitem__ __contains__ __len__ __iter__ __add__ __sub__ __and__ __or__ __mul__ __rmul__"
                  " __floordiv__ __mod__ __le__ __lt__ __eq__ __str__",
    "fillings.Filling": "__init__ __getitem__ __contains__ __len__ __iter__ __add__ __sub__ __and__ __or__ __mul__ __rmul__"
                        " __floordiv__ __mod__ __le__ __lt__ __eq__ __invert__ __str__",
    "orders.Order": "__init__ __len__ __iter__ __contains__ __getitem__ __add__ __sub__ __and__ __le__ __invert__ __call__"
                    " __eq__ __str__",
    "bars.Bars": "__init__ __contains__ __len__ __iter__ __or__ __and__ __sub__ __le__ __lt__ __ge__ __gt__ __eq__"
                 " __invert__ __str__",
    "bars.Example": "__init__ __eq__", "peels.Found": "__init__ __eq__", "peels.Stuck": "__init__ __eq__ __bool__",
    "follows.Follows": "__init__ __eq__", "follows.Fails": "__init__ __eq__ __bool__", "best.Optimum": "__init__ __eq__",
    "alike.Apart": "__init__ __eq__ __bool__", "offers.Offers": "__init__ __len__ __iter__ __contains__ __eq__ __str__",
    "offers.Coming": "__init__ __eq__", "nested.Nested": "__init__ __eq__", "nested.Unnested": "__bool__",
    "nested.TwoWorths": "__init__ __eq__", "nested.Crossing": "__init__ __eq__", "nested.Dearer": "__init__ __eq__",
    "rules.Rule": "__call__ __or__", "rules.Narrowest": "__call__ __or__ __eq__ __str__",
    "rules.Dearest": "__call__ __or__ __eq__ __str__", "rules.Soonest": "__call__ __or__ __eq__ __str__",
    "rules.Listed": "__init__ __call__ __or__ __eq__ __str__", "rules.By": "__init__ __call__ __or__ __eq__ __str__",
    "rules.Served": "__init__ __eq__", "foe.Foe": "__init__", "foe.Game": "__init__ __eq__",
    "seen.Seen": "__init__ __eq__ __str__", "seen.Asking": "__init__ __eq__", "bysides.BySides": "__init__ __eq__",
    "bysides.StuckSides": "__init__ __eq__ __bool__",
    "ledger.Ledger": "__init__ __getitem__ __setitem__ __len__ __iter__ __eq__", "desk.Desk": "__init__ __len__ __call__",
}
CALLS = {
    "tables.Table": "(rows, uses=())", "tables.Table.scope": "(self, source)", "tables.Table.takers": "(self, use)",
    "tables.Table.with_worth": "(self, source, use, worth)", "tables.Table.without": "(self, *names)",
    "tables.Table.flat": "(scopes, worth=1)", "tables.Table.rated": "(by_source, by_use)", "tables.Table.read": "(text)",
    "sides.Side": "(**amounts)", "sides.Side.of": "(amounts)", "sides.Side.with_amount": "(self, name, amount)",
    "sides.Side.read": "(text)", "fillings.Filling": "(amounts)", "fillings.Filling.worth_in": "(self, table)",
    "fillings.Filling.fits": "(self, sources, uses)", "fillings.Filling.uses_up": "(self, sources, uses)",
    "fillings.Filling.read": "(text)", "orders.Order": "(*pairs)", "orders.Order.of": "(pairs)",
    "orders.Order.place": "(self, pair)", "orders.Order.moved": "(self, pair, k)", "orders.Order.reduced": "(self, pairs)",
    "orders.Order.__call__": "(self, sources, uses)", "orders.Order.read": "(text)", "orders.Order.by_worth": "(table)",
    "orders.Order.by_sources": "(table)", "fills.steps": "(order, sources, uses)", "fills.remains": "(order, sources, uses)",
    "fills.shows_fill": "(order, sources, uses, value)", "fills.ripple": "(order, sources, uses, source)",
    "bars.Bars": "(pairs, *bars)", "bars.Bars.first_broken": "(self, order)", "bars.Bars.holding": "(self, own, left)",
    "bars.Bars.read": "(text)", "bars.Bars.of": "(pairs, bars)", "bars.Bars.best": "(table, pairs=None)",
    "bars.Bars.used_up": "(table)", "bars.Bars.ahead": "(pairs, first, then)",
    "bars.Bars.seen": "(pairs, sources, uses, filling)", "bars.joint_pairs": "(*tables)", "bars.example": "(table, bar)",
    "bars.Example": "(sources, uses, worse, better)", "look_bars.shows_example": "(table, order, paper)",
    "peels.free_pairs": "(bars, left)", "peels.find_order": "(bars)", "peels.orders": "(bars)",
    "peels.count_orders": "(bars)", "peels.firsts": "(bars)", "peels.lasts": "(bars)", "peels.narrowed": "(bars)",
    "peels.Found": "(order)", "peels.Stuck": "(held)", "look_peels.shows_found": "(bars, paper)",
    "look_peels.shows_stuck": "(bars, paper)", "follows.Follows": "(held)", "follows.Fails": "(order)",
    "follows.follows": "(bars, bar)", "follows.same_orders": "(one, other)", "follows.surely_ahead": "(bars)",
    "follows.last_place": "(bars, pair)", "follows.thinned": "(bars)", "follows.closed": "(bars)",
    "look_follows.shows_follows": "(bars, bar, paper)", "best.Optimum": "(filling, source_prices, use_prices)",
    "best.best": "(table, sources, uses)", "best.best_used_up": "(table, sources, uses)",
    "best.shortfall": "(order, table, sources, uses)", "best.extra": "(table, sources, uses, name, is_source=True)",
    "look_best.shows_best": "(table, sources, uses, paper)", "look_best.shows_used_up": "(table, sources, uses, paper)",
    "alike.Apart": "(first, then, sources, uses)", "alike.alike": "(one, other)", "alike.shows_apart": "(one, other, paper)",
    "alike.normal": "(order)", "alike.alike_orders": "(order)", "alike.count_alike": "(order)",
    "alike.exchanges": "(one, other)", "alike.shows_exchanges": "(one, other, value)", "offers.Offers": "(table, **ends)",
    "offers.Offers.of": "(table, ends)", "offers.Offers.end": "(self, source)", "offers.Offers.servers": "(self, use, day)",
    "offers.Offers.no_wider": "(self, one, other)", "offers.Offers.ended": "(self, source, day)",
    "offers.Offers.read": "(text)", "offers.Coming": "(use, amount, day=0)", "nested.nested": "(offers)",
    "nested.Nested": "(lists)", "nested.TwoWorths": "(source, less, more)",
    "nested.Crossing": "(one, other, shared, by_one, by_other)", "nested.Dearer": "(narrow, wide, shared, beyond)",
    "nested.narrow_order": "(offers)", "look_nested.shows_nested": "(offers, value)",
    "rules.Rule.read": "(text)", "rules.Rule.__call__": "(self, use, amount, day, left, offers)",
    "rules.Narrowest": "()", "rules.Narrowest.row": "(self, use, day, offers)",
    "rules.Narrowest.__call__": "(self, use, amount, day, left, offers)",
    "rules.Dearest": "()", "rules.Dearest.row": "(self, use, day, offers)",
    "rules.Dearest.__call__": "(self, use, amount, day, left, offers)",
    "rules.Soonest": "()", "rules.Soonest.row": "(self, use, day, offers)",
    "rules.Soonest.__call__": "(self, use, amount, day, left, offers)",
    "rules.Listed": "(lists)", "rules.Listed.row": "(self, use, day, offers)",
    "rules.Listed.__call__": "(self, use, amount, day, left, offers)",
    "rules.By": "(work)", "rules.By.__call__": "(self, use, amount, day, left, offers)",
    "rules.serve": "(rule, offers, sources, comings)", "rules.Served": "(taken, left, earned)",
    "rules.hindsight": "(offers, sources, comings)", "rules.first_loss": "(rule, offers, sources, comings)",
    "foe.Foe": "(offers)", "foe.Foe.play": "(self, rule)", "foe.Game": "(sources, comings, taken, better)",
    "foe.shows_game": "(offers, value)", "seen.Seen": "(sources, uses, filling)",
    "seen.Seen.by": "(order, sources, uses)", "seen.Seen.bars": "(self, pairs)",
    "seen.Seen.is_explained": "(self, order)", "seen.Seen.read": "(text)", "seen.explained": "(pairs, seens)",
    "seen.told_ahead": "(pairs, seens)", "seen.ask_next": "(pairs, seens)",
    "seen.shows_asking": "(pairs, seens, paper, one, other)", "seen.Asking": "(sources, uses, first, then)",
    "ranges.worth_range": "(table, order, pair)", "ranges.worth_ranges": "(table, order)",
    "ranges.stays_best": "(table, order, pair, worth)", "ranges.raised": "(table, by_source, by_use)",
    "bysides.BySides": "(names, order)", "bysides.StuckSides": "(held)", "bysides.find_by_sources": "(bars)",
    "bysides.find_by_uses": "(bars)", "look_bysides.shows_by_sources": "(bars, paper)",
    "look_bysides.shows_stuck_sources": "(bars, paper)", "look_bysides.shows_by_uses": "(bars, paper)",
    "look_bysides.shows_stuck_uses": "(bars, paper)", "ledger.Ledger": "(table, order)",
    "ledger.Ledger.refilled": "(self)", "ledger.Ledger.gap": "(self)", "ledger.Ledger.credit": "(self, source, amount)",
    "ledger.Ledger.bill": "(self, use, amount)", "ledger.Ledger.lapse": "(self, source)",
    "ledger.Ledger.cancel": "(self, use, amount)", "ledger.Ledger.refill": "(self)",
    "ledger.Ledger.set_way": "(self, order)", "ledger.Ledger.set_rates": "(self, table)",
    "ledger.Ledger.undo": "(self)", "ledger.Ledger.trial": "(self)", "ledger.Ledger.tried": "(self, work)",
    "ledger.Ledger.attempt": "(self, work)", "ledger.Ledger.twin": "(self)", "texts.ledger_text": "(ledger)",
    "reading.read_ledger": "(text)", "desk.Desk": "()", "desk.Desk.ask": "(self, line)",
    "desk.Desk.__call__": "(self, line)", "desk.Desk.run": "(self, *lines)",
}


def found(path):
    """What a path names, and the module in which it should be defined."""
    module, *names = path.split(".")
    value = importlib.import_module("filledrow." + module)
    for name in names:
        value = inspect.getattr_static(value, name) if name == names[-1] and len(names) > 1 else vars(value)[name]
    return value, "filledrow." + module


class Interface(unittest.TestCase):
    def test_arguments(self):
        for path, told in CALLS.items():
            value, module = found(path)
            if isinstance(value, classmethod):
                value = value.__get__(None, object)
            elif isinstance(value, staticmethod):
                value = value.__func__
            self.assertEqual(str(inspect.signature(value)), told, path)
            self.assertEqual(value.__module__, module, path)

    def test_methods_stand_in_the_class_itself(self):
        for path, names in SIGNS.items():
            value, _ = found(path)
            methods = [told.rpartition(".")[2] for told in CALLS if told.startswith(path + ".")]
            for name in [*names.split(), *methods]:
                self.assertIn(name, vars(value), path)

    def test_class_methods_and_static_methods(self):
        for path in CALLS:
            value, _ = found(path)
            if path.endswith((".read", ".of")) and path != "rules.Rule.read":
                self.assertIsInstance(value, classmethod, path)
            if path.count(".") == 2 and (path == "rules.Rule.read" or path.endswith((
                    ".flat", ".rated", ".by_worth", ".by_sources", ".best", ".used_up", ".ahead", ".seen", ".by"))):
                self.assertIsInstance(value, staticmethod, path)

    def test_rules(self):
        base, _ = found("rules.Rule")
        for name in ("Narrowest", "Dearest", "Soonest", "Listed", "By"):
            self.assertEqual(found("rules." + name)[0].__bases__, (base,))
        self.assertEqual([hasattr(value, "row") for value in (base, found("rules.By")[0])], [False, False])

    def test_properties(self):
        told = vars(found("offers.Offers")[0])["ends"]
        self.assertEqual([type(told), told.fset, told.fdel], [property, None, None])
        ledger = vars(found("ledger.Ledger")[0])
        for name, has_setter in [("free", False), ("open_now", False), ("way", True), ("rates", True)]:
            self.assertEqual([type(ledger[name]), ledger[name].fset is not None, ledger[name].fdel], [property, has_setter, None])

    def test_no_sign_changes_in_place(self):
        for path in SIGNS:
            self.assertEqual([name for name in vars(found(path)[0]) if name.startswith("__i") and name not in (
                "__init__", "__iter__", "__invert__")], [])


if __name__ == "__main__":
    unittest.main()
