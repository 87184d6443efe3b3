"""Fillings by orders, step by step, what remains of them, and how they change with one unit more."""

from filledrow.errors import BadName, BadOrder
from filledrow.fillings import check_sides
from filledrow.kinds import is_name
from filledrow.orders import Order
from filledrow.walks import walk


def check_fill(order, sources, uses):
    """Raises BadOrder("order"), then BadSide, for arguments of other kinds."""
    if not isinstance(order, Order):
        raise BadOrder("order")
    check_sides(sources, uses)


def steps(order, sources, uses):
    """For each pair, in order: the pair, what it takes, what its source and its use have left behind it."""
    check_fill(order, sources, uses)
    for row in walk(order.pairs, sources, uses):
        yield row


def remains(order, sources, uses):
    """The two Sides of what the sources and what the uses have left at the end."""
    check_fill(order, sources, uses)
    filling = order(sources, uses)
    return (sources - filling.by_source, uses - filling.by_use)


def shows_fill(order, sources, uses, value):
    """Whether a value is the filling by the order."""
    check_fill(order, sources, uses)
    return order(sources, uses) == value


def ripple(order, sources, uses, source):
    """The pairs at which the filling by the order changes if a source has one unit more, in order."""
    check_fill(order, sources, uses)
    if not is_name(source):
        raise BadName(source)
    before = order(sources, uses)
    behind = order(sources.with_amount(source, sources[source] + 1), uses)
    return tuple([pair for pair in order.pairs if before[pair] != behind[pair]])
