"""What follows from bars: what each order does that breaks none of them."""

from filledrow.bars import Bars, is_bar, pairs_of
from filledrow.errors import BadBars, NoPair, TooMany
from filledrow.orders import Order
from filledrow.peels import check_bars, find_order, has_bit, masks_of, take_off

MOST_COMPARED = 12
MOST_GONE_THROUGH = 8


class Follows:
    """A bar follows: a stuck set of the bars together with those that put its other pairs behind its own one."""

    def __init__(self, held):
        self.held = held

    def __eq__(self, other):
        return isinstance(other, Follows) and self.held == other.held


class Fails:
    """A bar does not follow: an order that breaks it, and none of the bars. It is false."""

    def __init__(self, order):
        self.order = order

    def __eq__(self, other):
        return isinstance(other, Fails) and self.order == other.order

    def __bool__(self):
        return False


def check_asked(bars, bar):
    """Raises BadBars("bars") for what is no Bars, BadBars("bar") for what is no bar of its pairs."""
    check_bars(bars)
    if not is_bar(bar) or not all([pair in bars.pairs for pair in pairs_of(bar)]):
        raise BadBars("bar")


def check_few(bars, most):
    """Raises TooMany for Bars of more pairs than can be gone through."""
    if len(bars.pairs) > most:
        raise TooMany("pairs", most)


def broken_bars(bars, bar):
    """The bars together with those that put the other pairs of a bar behind its own one."""
    return bars | Bars.of(bars.pairs, [(other, bar[0], None) for other in pairs_of(bar)[1:]])


def follows(bars, bar):
    """Follows with a stuck set, or Fails with the least order that breaks this bar alone."""
    check_asked(bars, bar)
    told = find_order(broken_bars(bars, bar))
    if told:
        return Fails(told.order)
    return Follows(told.held)


def row_breaking(bars, masks, bar):
    """The least row of indexes that breaks a bar and none of those whose masks are told; None if it follows."""
    ahead = 1 << bars.pairs.index(bar[0])
    longer = [[*masks[k], ahead] if pair in bar[1:] else masks[k] for k, pair in enumerate(bars.pairs)]
    row, left, _ = take_off(longer)
    if left > 0:
        return None
    return row


def least_breaking(bars, others):
    """The least order of some bars that breaks one of others; None if there is none."""
    masks = masks_of(bars)
    least = None
    for bar in others:
        row = row_breaking(bars, masks, bar)
        if row is not None and (least is None or row < least):
            least = row
    if least is None:
        return None
    return Order.of([bars.pairs[k] for k in least])


def same_orders(one, other):
    """None if just the same orders break none of both; otherwise the least order of one that is none of other,
    or, if there is none, the least order of other that is none of one."""
    check_bars(one)
    check_bars(other)
    if one.pairs != other.pairs:
        raise BadBars("pairs")
    check_few(one, MOST_COMPARED)
    found = least_breaking(one, other)
    if found is None:
        return least_breaking(other, one)
    return found


def surely_ahead(bars):
    """All (first, then), ascending, of which first stands ahead of then in every order that breaks no bar."""
    is_stuck = not find_order(bars)
    masks = masks_of(bars)
    told = []
    for first, pair in enumerate(bars.pairs):
        # If there is no order, every bar follows, also those of pairs that can be taken off.
        left = (1 << len(masks)) - 1 if is_stuck else take_off(masks, first)[1]
        told.extend([(pair, then) for k, then in enumerate(bars.pairs) if k != first and has_bit(left, k)])
    return tuple(told)


def last_place(bars, pair):
    """The greatest index that a pair has in an order that breaks no bar; None if there is no such order."""
    check_bars(bars)
    if pair not in bars.pairs:
        raise NoPair(pair)
    if not find_order(bars):
        return None
    return len(take_off(masks_of(bars), bars.pairs.index(pair))[0])


def thinned(bars):
    """The Bars that are left when each one, ascending, that follows from the others that are left is left out."""
    check_bars(bars)
    check_few(bars, MOST_GONE_THROUGH)
    left = bars
    for bar in bars:
        less = left - Bars(bars.pairs, bar)
        if row_breaking(less, masks_of(less), bar) is None:
            left = less
    return left


def closed(bars):
    """The Bars of all bars that follow."""
    check_bars(bars)
    check_few(bars, MOST_GONE_THROUGH)
    masks = masks_of(bars)
    others = [*bars.pairs, None]
    rows = [(own, q, r) for own in bars.pairs for q in others for r in others if own != q and own != r]
    return Bars.of(bars.pairs, [bar for bar in rows if row_breaking(bars, masks, bar) is None])
