"""A look at what peeling tells: orders that break no bar, and stuck sets. Nothing is searched."""

from filledrow.kinds import ascending
from filledrow.orders import Order
from filledrow.peels import Found, Stuck, check_bars


def shows_found(bars, paper):
    """Whether a value is a Found with an Order of just the pairs that breaks no bar."""
    check_bars(bars)
    if not isinstance(paper, Found) or not isinstance(paper.order, Order):
        return False
    return ascending(paper.order.pairs) == bars.pairs and bars.first_broken(paper.order) is None


def shows_stuck(bars, paper):
    """Whether a value is a Stuck of some stuck set."""
    check_bars(bars)
    if not isinstance(paper, Stuck) or not isinstance(paper.held, tuple) or len(paper.held) == 0:
        return False
    if not all([is_held_pair(bars, item) for item in paper.held]):
        return False
    pairs = [pair for pair, _ in paper.held]
    if len(set(pairs)) < len(pairs):
        return False
    return all([other is None or other in pairs for _, bar in paper.held for other in bar[1:]])


def is_held_pair(bars, item):
    """Whether a value is a tuple of a pair and one of the bars that begins with it."""
    return isinstance(item, tuple) and len(item) == 2 and item[1] in bars and item[1][0] == item[0]
