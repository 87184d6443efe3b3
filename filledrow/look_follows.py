"""A look at whether a bar follows or fails. Nothing is searched."""

from filledrow.bars import Bars
from filledrow.follows import Fails, Follows, broken_bars, check_asked
from filledrow.look_peels import shows_found, shows_stuck
from filledrow.peels import Found, Stuck


def shows_follows(bars, bar, paper):
    """Whether a value is a Follows of a stuck set, or a Fails of an order that breaks this bar alone."""
    check_asked(bars, bar)
    if isinstance(paper, Follows):
        return shows_stuck(broken_bars(bars, bar), Stuck(paper.held))
    if not isinstance(paper, Fails) or not shows_found(bars, Found(paper.order)):
        return False
    return Bars(bars.pairs, bar).first_broken(paper.order) is not None
