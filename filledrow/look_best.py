"""A look at best fillings and their prices: they are added up, and nothing is searched."""

from filledrow.best import Optimum, check_used_up
from filledrow.fillings import Filling
from filledrow.kinds import is_integer


def shows_best(table, sources, uses, paper):
    """Whether a value is an Optimum with prices from 0 which shows that its filling is best."""
    if not is_priced(table, paper) or not paper.filling.fits(sources, uses):
        return False
    prices = [*list(paper.source_prices.values()), *list(paper.use_prices.values())]
    if not all([price >= 0 for price in prices]):
        return False
    return covers(table, paper, table.pairs) and comes_to_its_worth(table, sources, uses, paper)


def shows_used_up(table, sources, uses, paper):
    """Whether a value is an Optimum which shows that its filling is best among those that use up both sides."""
    check_used_up(table, sources, uses)
    if not is_priced(table, paper) or not paper.filling.uses_up(sources, uses):
        return False
    pairs = [(source, use) for source in table.sources for use in table.uses]
    return covers(table, paper, pairs) and comes_to_its_worth(table, sources, uses, paper)


def is_priced(table, paper):
    """Whether a value is an Optimum of a Filling and of prices, which have no other names than the table."""
    if not isinstance(paper, Optimum) or not isinstance(paper.filling, Filling):
        return False
    if not all([pair[0] in table.sources and pair[1] in table.uses for pair in paper.filling.pairs]):
        return False
    return are_prices(paper.source_prices, table.sources) and are_prices(paper.use_prices, table.uses)


def are_prices(value, names):
    """Whether a value is a dict from just these names to integers."""
    if not isinstance(value, dict) or len(value) != len(names) or not all([name in value for name in names]):
        return False
    return all([is_integer(price) for price in value.values()])


def covers(table, paper, pairs):
    """Whether the prices of the ends of each of some pairs are together at least its worth."""
    return all([paper.source_prices[a] + paper.use_prices[x] >= table[a, x] for a, x in pairs])


def comes_to_its_worth(table, sources, uses, paper):
    """Whether the worth of the filling is the sum of all amounts times their prices."""
    paid = sum([sources[source] * paper.source_prices[source] for source in table.sources])
    paid += sum([uses[use] * paper.use_prices[use] for use in table.uses])
    return paper.filling.worth_in(table) == paid
