"""Ranges: the worths that a pair can have with an order still best, and tables with raised worths."""

from filledrow.demands import meet
from filledrow.errors import BadOrder, BadTable, BadWorth, NoName, NoPair
from filledrow.kinds import is_integer, is_name
from filledrow.orders import Order
from filledrow.tables import Table


def check_scope(table, order):
    """Raises BadOrder("scope") for what is no Order with all pairs in scope."""
    if not isinstance(table, Table) or not isinstance(order, Order):
        raise BadOrder("scope")
    if not all([pair in order for pair in table.pairs]):
        raise BadOrder("scope")


def check_ranged(table, order, pair):
    """Raises BadOrder("scope"), then NoPair(pair) for what is no pair of the order."""
    check_scope(table, order)
    if pair not in order:
        raise NoPair(pair)


def demanded_sums(pairs):
    """For all pairs, in their order: (some, others), of which some together must be worth no less than others.

    The order is best exactly if all of these hold.
    """
    rows = []
    for at, own in enumerate(pairs):
        behind = pairs[at + 1:]
        rows.extend([((own,), (other,)) for other in behind if meet(own, other)])
        beside = [other for other in behind if other[0] == own[0]]
        across = [other for other in behind if other[1] == own[1]]
        rows.extend([((own, (r[0], q[1])), (q, r)) for q in beside for r in across])
    return rows


def worth_of(table, pairs, spared):
    """The worth of some pairs together, but of one."""
    return sum([table[pair] for pair in pairs if pair != spared])


def range_among(table, rows, pair):
    """The least and the greatest worth of a pair for which all demanded sums hold, None if there is none."""
    low, high = 1, None
    for some, others in rows:
        lacking = worth_of(table, others, pair) - worth_of(table, some, pair)
        if pair in some:
            low = max(int(low), int(lacking))
        elif pair in others:
            high = -lacking if high is None else min(int(high), int(-lacking))
        elif lacking > 0:
            return None
    if high is not None and high < low:
        return None
    return (low, high)


def worth_range(table, order, pair):
    """The least and the greatest worth of a pair at which an order is best, None if there is none."""
    check_ranged(table, order, pair)
    return range_among(table, demanded_sums(order.pairs), pair)


def worth_ranges(table, order):
    """The ranges of all pairs of an order."""
    check_scope(table, order)
    rows = demanded_sums(order.pairs)
    return {pair: range_among(table, rows, pair) for pair in order.pairs}


def stays_best(table, order, pair, worth):
    """Whether an order is best with another worth of a pair."""
    check_ranged(table, order, pair)
    if not is_integer(worth, 1):
        raise BadWorth(worth)
    found = range_among(table, demanded_sums(order.pairs), pair)
    if found is None:
        return False
    return found[0] <= worth and (found[1] is None or worth <= found[1])


def are_rates(value):
    """Whether a value is a dict from names to integers."""
    if not isinstance(value, dict) or not all([is_name(name) for name in value]):
        return False
    return all([is_integer(rate) for rate in value.values()])


def check_rates(table, by_source, by_use):
    """Raises what `raised` raises for its rates."""
    if not are_rates(by_source):
        raise BadTable("by_source")
    if not are_rates(by_use):
        raise BadTable("by_use")
    for name in by_source:
        if name not in table.sources:
            raise NoName(name)
    for name in by_use:
        if name not in table.uses:
            raise NoName(name)


def raised(table, by_source, by_use):
    """The Table in which each worth is greater by a rate of its source and a rate of its use."""
    check_rates(table, by_source, by_use)
    rows = {}
    for a in table.sources:
        rows[a] = {x: table[a, x] + by_source.get(a, 0) + by_use.get(x, 0) for x in table.uses}
    # The rows ascend, so the first worth that the Table refuses is the first one by pairs.
    return Table(rows, table.uses)
