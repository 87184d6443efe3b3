"""A look at orders by sources and by uses, and at what keeps them away. Nothing is searched."""

from filledrow.bysides import BySides, StuckSides
from filledrow.kinds import ascending
from filledrow.orders import Order
from filledrow.peels import check_bars


def shows_by_sources(bars, paper):
    """Whether a value is a BySides of the sources, with an order that goes by them and breaks no bar."""
    check_bars(bars)
    return isinstance(paper, BySides) and goes_by(bars, paper, 0)


def shows_by_uses(bars, paper):
    """Whether a value is a BySides of the uses, with an order that goes by them and breaks no bar."""
    check_bars(bars)
    return isinstance(paper, BySides) and goes_by(bars, paper, 1)


def shows_stuck_sources(bars, paper):
    """Whether a value is a StuckSides of sources none of which can come first."""
    check_bars(bars)
    return isinstance(paper, StuckSides) and is_stuck(bars, paper.held, 0)


def shows_stuck_uses(bars, paper):
    """Whether a value is a StuckSides of uses none of which can come first."""
    check_bars(bars)
    return isinstance(paper, StuckSides) and is_stuck(bars, paper.held, 1)


def goes_by(bars, paper, end):
    """Whether the order of a BySides has just the pairs, goes by its names in their order, and breaks no bar."""
    if not isinstance(paper.order, Order) or ascending(paper.order.pairs) != bars.pairs:
        return False
    ends = [pair[end] for pair in paper.order.pairs]
    runs = [name for at, name in enumerate(ends) if at == 0 or ends[at - 1] != name]
    if len(set(runs)) < len(runs) or paper.names != tuple(runs):
        return False
    return bars.first_broken(paper.order) is None


def is_stuck(bars, held, end):
    """Whether a value is a tuple of names, ascending, with pairs of theirs that are all held."""
    if not isinstance(held, tuple) or len(held) == 0 or not all([is_told(bars, item, end) for item in held]):
        return False
    names = [name for name, _ in held]
    if not ascends(names):
        return False
    return all([is_held(bar, some, names, end) for _, some in held for _, bar in some])


def is_told(bars, item, end):
    """Whether a value is a tuple of a name and of pairs of this name, ascending, at least one, with bars of theirs."""
    if not isinstance(item, tuple) or len(item) != 2 or not isinstance(item[1], tuple) or len(item[1]) == 0:
        return False
    if not all([is_barred(bars, part) for part in item[1]]):
        return False
    pairs = [pair for pair, _ in item[1]]
    return ascends(pairs) and all([pair[end] == item[0] for pair in pairs])


def is_barred(bars, part):
    """Whether a value is a tuple of a pair and one of the bars that begins with it."""
    return isinstance(part, tuple) and len(part) == 2 and part[1] in bars and part[1][0] == part[0]


def ascends(row):
    """Whether each item of a row is greater than the one ahead of it."""
    return all([one < other for one, other in zip(row, row[1:])])


def is_held(bar, some, names, end):
    """Whether the other pairs of a bar are None, told of the same name, or of other told names."""
    told = [pair for pair, _ in some]
    return all([other is None or other in told or (other[end] != bar[0][end] and other[end] in names)
                for other in bar[1:]])
