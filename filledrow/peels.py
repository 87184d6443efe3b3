"""Peeling: free pairs are taken off until an order is there, or the greatest stuck set is left."""

from filledrow.bars import Bars, is_held_by
from filledrow.errors import BadBars, TooMany
from filledrow.kinds import are_unlike_pairs
from filledrow.orders import Order

MOST_COUNTED = 12


class Found:
    """An order that breaks no bar."""

    def __init__(self, order):
        self.order = order

    def __eq__(self, other):
        return isinstance(other, Found) and self.order == other.order


class Stuck:
    """A stuck set, with a bar for each of its pairs that holds it. It is false."""

    def __init__(self, held):
        self.held = held

    def __eq__(self, other):
        return isinstance(other, Stuck) and self.held == other.held

    def __bool__(self):
        return False


def check_bars(bars):
    """Raises BadBars("bars") for what is no Bars."""
    if not isinstance(bars, Bars):
        raise BadBars("bars")


def own_bars(bars):
    """For each of the pairs, the bars that begin with it, ascending."""
    own = {pair: [] for pair in bars.pairs}
    for bar in bars:
        own[bar[0]].append(bar)
    return [own[pair] for pair in bars.pairs]


def masks_of(bars):
    """For each of the pairs, its bars as numbers that have a bit for each other pair of the bar."""
    bits = {pair: 1 << k for k, pair in enumerate(bars.pairs)}
    return [[sum([bits[pair] for pair in bar[1:] if pair is not None]) for bar in own] for own in own_bars(bars)]


def take_off(masks, spared=None):
    """Takes off the least free pair, again and again, but never a spared one.

    Tells the row of what came off, the bits of what is left, and for each pair how many of its first
    bars hold it no more. A bar that holds no more never holds again, so each is passed by only once.
    """
    passed = [0] * len(masks)
    left = (1 << len(masks)) - 1
    row = []
    found = next_off(masks, passed, left, spared)
    while found is not None:
        row.append(found)
        left = left - (1 << found)
        found = next_off(masks, passed, left, spared)
    return row, left, passed


def next_off(masks, passed, left, spared):
    """The least pair that is left and free and not spared, None if there is none."""
    for k in range(len(masks)):
        if k != spared and has_bit(left, k):
            while passed[k] < len(masks[k]) and (masks[k][passed[k]] & left) != masks[k][passed[k]]:
                passed[k] += 1
            if passed[k] == len(masks[k]):
                return k
    return None


def has_bit(left, k):
    """Whether a pair is left."""
    return (left >> k) & 1 == 1


def free_among(masks, left):
    """The pairs that are free when just some are left."""
    return [k for k in range(len(masks)) if has_bit(left, k) and all([(mask & left) != mask for mask in masks[k]])]


def free_pairs(bars, left):
    """The pairs that are free when just some pairs are left, ascending."""
    check_bars(bars)
    if not are_unlike_pairs(left) or not all([pair in bars.pairs for pair in left]):
        raise BadBars("left")
    return tuple([pair for pair in bars.pairs if pair in left and not bars.holding(pair, left)])


def find_order(bars):
    """The least order that breaks no bar, or the greatest stuck set."""
    check_bars(bars)
    row, left, passed = take_off(masks_of(bars))
    if left == 0:
        return Found(Order.of([bars.pairs[k] for k in row]))
    own = own_bars(bars)
    return Stuck(tuple([(pair, own[k][passed[k]]) for k, pair in enumerate(bars.pairs) if has_bit(left, k)]))


def orders(bars):
    """All orders that break no bar, ascending; none, at once, if there is a stuck set."""
    if find_order(bars):
        masks = masks_of(bars)
        left = (1 << len(masks)) - 1
        done = ()
        for row in rows_from(masks, left, done):
            yield Order.of([bars.pairs[k] for k in row])


def rows_from(masks, left, done):
    """All rows that begin with what is done and take off free pairs until none is left."""
    if left == 0:
        yield done
    for k in free_among(masks, left):
        less = left - (1 << k)
        longer = done + (k,)
        yield from rows_from(masks, less, longer)


def count_orders(bars):
    """How many orders break no bar."""
    check_bars(bars)
    if len(bars.pairs) > MOST_COUNTED:
        raise TooMany("pairs", MOST_COUNTED)
    masks = masks_of(bars)
    whole = (1 << len(masks)) - 1
    ways = {whole: 1}
    # What is left only gets less, and a part of some pairs has a lesser number than the whole of them.
    for left in range(whole, 0, -1):
        if left in ways:
            for k in free_among(masks, left):
                less = left - (1 << k)
                ways[less] = ways.get(less, 0) + ways[left]
    return ways.get(0, 0)


def firsts(bars):
    """The pairs that stand first in some order that breaks no bar, ascending."""
    if not find_order(bars):
        return ()
    return free_pairs(bars, bars.pairs)


def lasts(bars):
    """The pairs that stand last in some order that breaks no bar, ascending."""
    if not find_order(bars):
        return ()
    masks = masks_of(bars)
    return tuple([pair for k, pair in enumerate(bars.pairs) if take_off(masks, k)[1] == 1 << k])


def narrowed(bars):
    """The Bars of just the greatest stuck set; bars itself if there is none."""
    stuck = find_order(bars)
    if stuck:
        return bars
    pairs = [held[0] for held in stuck.held]
    return Bars.of(pairs, [bar for bar in bars if bar[0] in pairs and is_held_by(bar, pairs)])
