"""Best fillings of told amounts, with prices that show it."""

from filledrow.errors import BadSide, NoName
from filledrow.fillings import Filling
from filledrow.flows import best_amounts, covering_prices
from filledrow.sides import Side


class Optimum:
    """A best filling, and prices of sources and of uses that show that it is best."""

    def __init__(self, filling, source_prices, use_prices):
        self.filling = filling
        self.source_prices = source_prices
        self.use_prices = use_prices

    def __eq__(self, other):
        return (isinstance(other, Optimum) and self.filling == other.filling
                and self.source_prices == other.source_prices and self.use_prices == other.use_prices)


def worths_in_scope(table):
    """The worths of the pairs in scope."""
    return {pair: table[pair] for pair in table.pairs}


def best_filling(table, sources, uses):
    """A best filling of two Sides; names that the table does not have get nothing."""
    return Filling(best_amounts(worths_in_scope(table), sources, uses, False))


def best_worth(table, sources, uses):
    """The worth of a best filling of two Sides."""
    return best_filling(table, sources, uses).worth_in(table)


def best(table, sources, uses):
    """An Optimum of two Sides, with prices from 0."""
    worths = worths_in_scope(table)
    filling = best_filling(table, sources, uses)
    # No use needs a price above all worths, and one that has something left must have the price 0.
    top = max([int(worth) for worth in worths.values()], default=0)
    most = {use: top if filling.by_use[use] == uses[use] else 0 for use in table.uses}
    source_prices, use_prices = covering_prices(worths, filling, table.sources, most)
    return Optimum(filling, source_prices, use_prices)


def best_used_up(table, sources, uses):
    """An Optimum among the fillings that use up two Sides, with prices of any sign."""
    check_used_up(table, sources, uses)
    worths = {(source, use): table[source, use] for source in table.sources for use in table.uses}
    filling = Filling(best_amounts(worths, sources, uses, True))
    source_prices, use_prices = covering_prices(worths, filling, table.sources, {use: 0 for use in table.uses})
    return Optimum(filling, source_prices, use_prices)


def check_used_up(table, sources, uses):
    """Raises BadSide for Sides that are not of the names of the table, and for such that are not equal in all."""
    if not is_side_of(sources, table.sources):
        raise BadSide("sources")
    if not is_side_of(uses, table.uses):
        raise BadSide("uses")
    if sources.total != uses.total:
        raise BadSide("sums")


def is_side_of(side, names):
    """Whether a value is a Side that has no other names."""
    return isinstance(side, Side) and all([name in names for name in side.names])


def shortfall(order, table, sources, uses):
    """By how much the filling by an Order is worth less than the best one."""
    return best_worth(table, sources, uses) - order(sources, uses).worth_in(table)


def extra(table, sources, uses, name, is_source=True):
    """By how much the greatest worth grows with one unit more of a source, or of a use."""
    if name not in (table.sources if is_source else table.uses):
        raise NoName(name)
    before = best_worth(table, sources, uses)
    if is_source:
        return best_worth(table, sources.with_amount(name, sources[name] + 1), uses) - before
    return best_worth(table, sources, uses.with_amount(name, uses[name] + 1)) - before
