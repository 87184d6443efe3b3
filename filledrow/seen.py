"""Seen fillings: which orders explain them, what they tell for certain, and what to ask next."""

from filledrow.bars import Bars, check_pairs, check_seen, check_seen_sides
from filledrow.demands import meet
from filledrow.errors import BadOrder, BadSeen
from filledrow.fillings import Filling, take_filled
from filledrow.follows import surely_ahead
from filledrow.kinds import ascending, is_row
from filledrow.orders import Order
from filledrow.peels import find_order
from filledrow.sides import Side, take_amounts
from filledrow.words import Words

SLASH = "/"


class Seen:
    """A seen filling: the amounts of both sides, and a filling that fits them."""

    def __init__(self, sources, uses, filling):
        check_seen(sources, uses, filling)
        self.sources = sources
        self.uses = uses
        self.filling = filling
        self.kept = filling.pairs

    @staticmethod
    def by(order, sources, uses):
        """What is seen when an order fills these amounts."""
        if not isinstance(order, Order):
            raise BadOrder("order")
        check_seen_sides(sources, uses)
        return Seen(sources, uses, order(sources, uses))

    def bars(self, pairs):
        """The Bars of just these pairs that an order breaks exactly if it does not explain the filling."""
        return Bars.seen(pairs, self.sources, self.uses, self.filling)

    def is_explained(self, order):
        """Whether a value is an Order that explains the filling."""
        return isinstance(order, Order) and order(self.sources, self.uses) == self.filling

    def __eq__(self, other):
        return (isinstance(other, Seen) and self.sources == other.sources and self.uses == other.uses
                and self.filling == other.filling)

    def __str__(self):
        return " ".join([str(self.sources), SLASH, str(self.uses), SLASH, str(self.filling)])

    @classmethod
    def read(cls, text):
        """The Seen with this text."""
        words = Words(text)
        sources = take_amounts(words, SLASH)
        words.take_one((SLASH,))
        uses = take_amounts(words, SLASH)
        words.take_one((SLASH,))
        amounts = take_filled(words)
        words.take_end()
        return cls(Side.of(sources), Side.of(uses), Filling(amounts))


class Asking:
    """Amounts that the orders which explain all that was seen fill in two ways, and two pairs that tell them apart."""

    def __init__(self, sources, uses, first, then):
        self.sources = sources
        self.uses = uses
        self.first = first
        self.then = then

    def __eq__(self, other):
        return (isinstance(other, Asking) and self.sources == other.sources and self.uses == other.uses
                and self.first == other.first and self.then == other.then)


def check_seens(pairs, seens):
    """Raises BadBars("pairs") or TooMany for the pairs, then BadSeen for what are no Seens of these pairs."""
    check_pairs(pairs)
    if not is_row(seens):
        raise BadSeen(None)
    for at, seen in enumerate(seens):
        if not isinstance(seen, Seen) or not all([pair in pairs for pair in seen.kept]):
            raise BadSeen(at)


def bars_of_all(pairs, seens):
    """The Bars that an order of some pairs breaks exactly if it does not explain all that was seen."""
    check_seens(pairs, seens)
    return Bars.of(pairs, [bar for seen in seens for bar in seen.bars(pairs)])


def explained(pairs, seens):
    """The least order that explains all that was seen, or the greatest stuck set."""
    return find_order(bars_of_all(pairs, seens))


def told_ahead(pairs, seens):
    """All (first, then), two pairs that meet, of which first stands ahead in every order that explains all."""
    return tuple([(first, then) for first, then in surely_ahead(bars_of_all(pairs, seens)) if meet(first, then)])


def ask_next(pairs, seens):
    """What to ask next; None if all orders that explain what was seen are alike, or there is none."""
    known = told_ahead(pairs, seens)
    row = ascending(pairs)
    for at, first in enumerate(row):
        for then in row[at + 1:]:
            if meet(first, then) and (first, then) not in known and (then, first) not in known:
                return Asking(Side.of({first[0]: 1, then[0]: 1}), Side.of({first[1]: 1, then[1]: 1}), first, then)
    return None


def shows_asking(pairs, seens, paper, one, other):
    """Whether two values are Orders that explain all that was seen, and a third one an Asking that tells them apart."""
    check_seens(pairs, seens)
    if not all([explains_all(order, pairs, seens) for order in (one, other)]):
        return False
    if not isinstance(paper, Asking) or not isinstance(paper.sources, Side) or not isinstance(paper.uses, Side):
        return False
    here, there = one(paper.sources, paper.uses), other(paper.sources, paper.uses)
    unlike = [pair for pair in ascending(pairs) if here[pair] != there[pair]]
    return len(unlike) > 1 and paper.first == unlike[0] and paper.then == unlike[1]


def explains_all(order, pairs, seens):
    """Whether a value is an Order of just these pairs that explains all that was seen."""
    if not isinstance(order, Order) or ascending(order.pairs) != ascending(pairs):
        return False
    return all([seen.is_explained(order) for seen in seens])
