"""The interface: names, arguments, and where each class, method and function is defined."""

import importlib
import inspect
import unittest

SIGNS = {
    "tables.Table": "__init__ __len__ __iter__ __contains__ __getitem__ __add__ __or__ __and__ __mul__ __rmul__ __floordiv__"
                    " __mod__ __invert__ __le__ __lt__ __ge__ __gt__ __eq__ __str__",
    "sides.Side": "__init__ __getitem__ __contains__ __len__ __iter__ __add__ __sub__ __and__ __or__ __mul__ __rmul__"
                  " __floordiv__ __mod__ __le__ __lt__ __eq__ __str__",
    "fillings.Filling": "__init__ __getitem__ __contains__ __len__ __iter__ __add__ __sub__ __and__ __or__ __mul__ __rmul__"
                        " __floordiv__ __mod__ __le__ __lt__ __eq__ __invert__ __str__",
    "orders.Order": "__init__ __len__ __iter__ __contains__ __getitem__ __add__ __sub__ __and__ __le__ __invert__ __call__"
                    " __eq__ __str__",
    "bars.Bars": "__init__ __contains__ __len__ __iter__ __or__ __and__ __sub__ __le__ __lt__ __ge__ __gt__ __eq__"
                 " __invert__ __str__",
    "bars.Example": "__init__ __eq__", "peels.Found": "__init__ __eq__", "peels.Stuck": "__init__ __eq__ __bool__",
}
CALLS = {
    "tables.Table": "(rows, uses=())", "tables.Table.scope": "(self, source)", "tables.Table.takers": "(self, use)",
    "tables.Table.with_worth": "(self, source, use, worth)", "tables.Table.without": "(self, *names)",
    "tables.Table.flat": "(scopes, worth=1)", "tables.Table.rated": "(by_source, by_use)", "tables.Table.read": "(text)",
    "sides.Side": "(**amounts)", "sides.Side.of": "(amounts)", "sides.Side.with_amount": "(self, name, amount)",
    "sides.Side.read": "(text)", "fillings.Filling": "(amounts)", "fillings.Filling.worth_in": "(self, table)",
    "fillings.Filling.fits": "(self, sources, uses)", "fillings.Filling.uses_up": "(self, sources, uses)",
    "fillings.Filling.read": "(text)", "orders.Order": "(*pairs)", "orders.Order.of": "(pairs)",
    "orders.Order.place": "(self, pair)", "orders.Order.moved": "(self, pair, k)", "orders.Order.reduced": "(self, pairs)",
    "orders.Order.__call__": "(self, sources, uses)", "orders.Order.read": "(text)", "orders.Order.by_worth": "(table)",
    "orders.Order.by_sources": "(table)", "fills.steps": "(order, sources, uses)", "fills.remains": "(order, sources, uses)",
    "fills.shows_fill": "(order, sources, uses, value)", "fills.ripple": "(order, sources, uses, source)",
    "bars.Bars": "(pairs, *bars)", "bars.Bars.first_broken": "(self, order)", "bars.Bars.holding": "(self, own, left)",
    "bars.Bars.read": "(text)", "bars.Bars.of": "(pairs, bars)", "bars.Bars.best": "(table, pairs=None)",
    "bars.Bars.used_up": "(table)", "bars.Bars.ahead": "(pairs, first, then)",
    "bars.Bars.seen": "(pairs, sources, uses, filling)", "bars.joint_pairs": "(*tables)", "bars.example": "(table, bar)",
    "bars.Example": "(sources, uses, worse, better)", "look_bars.shows_example": "(table, order, paper)",
    "peels.free_pairs": "(bars, left)", "peels.find_order": "(bars)", "peels.orders": "(bars)",
    "peels.count_orders": "(bars)", "peels.firsts": "(bars)", "peels.lasts": "(bars)", "peels.narrowed": "(bars)",
    "peels.Found": "(order)", "peels.Stuck": "(held)",
}


def found(path):
    """What a path names, and the module in which it should be defined."""
    module, *names = path.split(".")
    value = importlib.import_module("filledrow." + module)
    for name in names:
        value = inspect.getattr_static(value, name) if name == names[-1] and len(names) > 1 else vars(value)[name]
    return value, "filledrow." + module


class Interface(unittest.TestCase):
    def test_arguments(self):
        for path, told in CALLS.items():
            value, module = found(path)
            if isinstance(value, classmethod):
                value = value.__get__(None, object)
            elif isinstance(value, staticmethod):
                value = value.__func__
            self.assertEqual(str(inspect.signature(value)), told, path)
            self.assertEqual(value.__module__, module, path)

    def test_methods_stand_in_the_class_itself(self):
        for path, names in SIGNS.items():
            value, _ = found(path)
            methods = [told.rpartition(".")[2] for told in CALLS if told.startswith(path + ".")]
            for name in [*names.split(), *methods]:
                self.assertIn(name, vars(value), path)

    def test_class_methods_and_static_methods(self):
        for path in CALLS:
            value, _ = found(path)
            if path.endswith((".read", ".of")):
                self.assertIsInstance(value, classmethod, path)
            if path.endswith((".flat", ".rated", ".by_worth", ".by_sources", ".best", ".used_up", ".ahead", ".seen")):
                self.assertIsInstance(value, staticmethod, path)

    def test_no_sign_changes_in_place(self):
        for path in SIGNS:
            self.assertEqual([name for name in vars(found(path)[0]) if name.startswith("__i") and name not in (
                "__init__", "__iter__", "__invert__")], [])


if __name__ == "__main__":
    unittest.main()
