"""Alike orders: those that fill alike for all amounts."""

from filledrow.bars import Bars
from filledrow.demands import meet
from filledrow.errors import BadOrder
from filledrow.kinds import ascending, is_integer
from filledrow.orders import Order
from filledrow.peels import count_orders, find_order, orders
from filledrow.sides import Side


class Apart:
    """Two pairs that meet and stand in two orders the other way round, and amounts that tell it. It is false."""

    def __init__(self, first, then, sources, uses):
        self.first = first
        self.then = then
        self.sources = sources
        self.uses = uses

    def __eq__(self, other):
        return (isinstance(other, Apart) and self.first == other.first and self.then == other.then
                and self.sources == other.sources and self.uses == other.uses)

    def __bool__(self):
        return False


def check_order(order):
    """Raises BadOrder("order") for what is no Order."""
    if not isinstance(order, Order):
        raise BadOrder("order")


def check_both(one, other):
    """Raises BadOrder for what are no two Orders of the same pairs."""
    if not isinstance(one, Order):
        raise BadOrder("one")
    if not isinstance(other, Order) or ascending(one.pairs) != ascending(other.pairs):
        raise BadOrder("other")


def exchanged(one, other):
    """All two pairs (first, then), first ahead of then in one and behind it in other, ascending."""
    here = {pair: at for at, pair in enumerate(one.pairs)}
    there = {pair: at for at, pair in enumerate(other.pairs)}
    pairs = ascending(one.pairs)
    return [(p, q) for p in pairs for q in pairs if here[p] < here[q] and there[q] < there[p]]


def alike(one, other):
    """None if two orders are alike; otherwise the least two pairs that meet and are exchanged."""
    check_both(one, other)
    for first, then in exchanged(one, other):
        if meet(first, then):
            return Apart(first, then, Side.of({first[0]: 1, then[0]: 1}), Side.of({first[1]: 1, then[1]: 1}))
    return None


def shows_apart(one, other, paper):
    """Whether a value is an Apart that shows that two orders are not alike."""
    check_both(one, other)
    if not isinstance(paper, Apart) or not isinstance(paper.sources, Side) or not isinstance(paper.uses, Side):
        return False
    if paper.first not in one or paper.then not in one or not meet(paper.first, paper.then):
        return False
    if one.place(paper.first) >= one.place(paper.then) or other.place(paper.first) <= other.place(paper.then):
        return False
    return one(paper.sources, paper.uses) != other(paper.sources, paper.uses)


def alike_bars(order):
    """The Bars that an order of the same pairs breaks exactly if it is not alike this one."""
    rows = []
    for at, pair in enumerate(order.pairs):
        rows.extend([(pair, first, None) for first in order.pairs[:at] if meet(first, pair)])
    return Bars.of(order.pairs, rows)


def normal(order):
    """The least order alike an order."""
    check_order(order)
    return find_order(alike_bars(order)).order


def alike_orders(order):
    """All orders alike an order, ascending."""
    check_order(order)
    bars = alike_bars(order)
    yield from orders(bars)


def count_alike(order):
    """How many orders are alike an order."""
    check_order(order)
    return count_orders(alike_bars(order))


def exchanges(one, other):
    """The indexes at which neighbours change places, one behind the other, until one is other."""
    if alike(one, other) is not None:
        raise BadOrder("other")
    row = [other.place(pair) for pair in one.pairs]
    told = []
    k = 0
    # Each exchange puts right one of the two pairs that stand the other way round, so fewer cannot do.
    while k + 1 < len(row):
        if row[k] > row[k + 1]:
            row[k], row[k + 1] = row[k + 1], row[k]
            told.append(k)
            k = k - 1 if k > 0 else 0
        else:
            k += 1
    return tuple(told)


def shows_exchanges(one, other, value):
    """Whether a value is a tuple of as few indexes as possible at which exchanges lead from one to other."""
    check_both(one, other)
    if not isinstance(value, tuple) or len(value) != len(exchanged(one, other)):
        return False
    row = list(one.pairs)
    for k in value:
        if not is_integer(k, 0) or k + 1 >= len(row) or meet(row[k], row[k + 1]):
            return False
        row[k], row[k + 1] = row[k + 1], row[k]
    return row == list(other.pairs)
