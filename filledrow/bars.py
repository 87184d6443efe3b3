"""Bars: demands on an order, each saying that a pair may not stand ahead of both of two others."""

from filledrow.bar_words import pairs_text, take_bars, take_pairs
from filledrow.demands import best_demands, seen_demands
from filledrow.errors import BadBars, BadPair, BadSeen, BadTable, TooMany
from filledrow.fillings import Filling
from filledrow.kinds import MOST_PAIRS, are_unlike_pairs, ascending, is_pair, is_row
from filledrow.orders import Order
from filledrow.sides import Side
from filledrow.tables import Table
from filledrow.words import Words


def check_pairs(pairs):
    """Raises BadBars("pairs") or TooMany for what pairs of Bars cannot be."""
    if not are_unlike_pairs(pairs):
        raise BadBars("pairs")
    if len(pairs) > MOST_PAIRS:
        raise TooMany("pairs", MOST_PAIRS)


def is_bar(value):
    """Whether a value is a bar of any pairs, in whichever form."""
    if not isinstance(value, tuple) or len(value) != 3 or not is_pair(value[0]):
        return False
    return all([other is None or is_pair(other) and other != value[0] for other in value[1:]])


def pairs_of(bar):
    """The pairs of a bar, its own one first."""
    return [pair for pair in bar if pair is not None]


def kept_form(bar):
    """A bar in the form in which it is kept: the lesser other pair first, None last, none twice."""
    first, then = bar[1], bar[2]
    if first is None or first == then:
        return (bar[0], then, None)
    if then is None or first < then:
        return bar
    return (bar[0], then, first)


def is_held_by(bar, left):
    """Whether a bar holds its own pair when just some pairs are left."""
    return all([other is None or other in left for other in bar[1:]])


def is_broken(bar, places):
    """Whether a bar's own pair stands ahead of its others; places are the indexes by the pairs."""
    return all([other is None or places[bar[0]] < places[other] for other in bar[1:]])


class Bars:
    """A lot of bars about the orders of some pairs."""

    def __init__(self, pairs, *bars):
        check_pairs(pairs)
        known = {pair: True for pair in pairs}
        for at, bar in enumerate(bars):
            if not is_bar(bar) or not all([pair in known for pair in pairs_of(bar)]):
                raise BadBars(at)
        self.pairs = ascending(pairs)
        self._known = {kept_form(bar): True for bar in bars}
        self._bars = ascending(list(self._known))

    @classmethod
    def of(cls, pairs, bars):
        """The Bars of a list or tuple of bars."""
        if not is_row(bars):
            raise BadBars("bars")
        # By its own name: the signs come here, and nothing that is passed may be called behind a sign.
        return Bars(pairs, *bars)

    def __len__(self):
        return len(self._bars)

    def __iter__(self):
        return iter(self._bars)

    def __contains__(self, x):
        return is_bar(x) and x in self._known

    def __or__(self, other):
        check_other(self, other)
        return Bars.of(self.pairs, self._bars + other._bars)

    def __and__(self, other):
        check_other(self, other)
        return Bars.of(self.pairs, [bar for bar in self._bars if bar in other._known])

    def __sub__(self, other):
        check_other(self, other)
        return Bars.of(self.pairs, [bar for bar in self._bars if bar not in other._known])

    def __le__(self, other):
        check_other(self, other)
        return all([bar in other._known for bar in self._bars])

    def __lt__(self, other):
        return self <= other and len(self._bars) < len(other._bars)

    def __ge__(self, other):
        check_other(self, other)
        return other <= self

    def __gt__(self, other):
        check_other(self, other)
        return other < self

    def __eq__(self, other):
        return isinstance(other, Bars) and self.pairs == other.pairs and self._bars == other._bars

    def first_broken(self, order):
        """The bar that an order breaks whose own pair stands foremost, of several the least; None if none."""
        if not isinstance(order, Order) or ascending(order.pairs) != self.pairs:
            raise BadBars("order")
        places = {pair: at for at, pair in enumerate(order.pairs)}
        found = None
        for bar in self._bars:
            if is_broken(bar, places) and (found is None or places[bar[0]] < places[found[0]]):
                found = bar
        return found

    def holding(self, own, left):
        """The bars by which a pair is held when just some pairs are left."""
        if own not in self.pairs:
            raise BadPair(own)
        if not are_unlike_pairs(left) or not all([pair in self.pairs for pair in left]) or own not in left:
            raise BadBars("left")
        return tuple([bar for bar in self._bars if bar[0] == own and is_held_by(bar, left)])

    def __invert__(self):
        return Bars.of([turned(pair) for pair in self.pairs], [turned_bar(bar) for bar in self._bars])

    def __str__(self):
        if not self.pairs:
            return "-"
        return " ; ".join([pairs_text(self.pairs), *[pairs_text(bar) for bar in self._bars]])

    @classmethod
    def read(cls, text):
        """The Bars with this text."""
        words = Words(text)
        pairs = take_pairs(words)
        return cls.of(pairs, take_bars(words, pairs))

    @staticmethod
    def best(table, pairs=None):
        """The bars that an order breaks exactly if it is not best for all amounts."""
        if not isinstance(table, Table):
            raise BadTable("table")
        if pairs is None:
            return Bars.of(table.pairs, best_demands(table, table.pairs, True))
        if not are_unlike_pairs(pairs) or len(pairs) > MOST_PAIRS:
            raise BadBars("pairs")
        if not all([pair in pairs for pair in table.pairs]):
            raise BadBars("pairs")
        return Bars.of(pairs, best_demands(table, pairs, True))

    @staticmethod
    def used_up(table):
        """The bars that an order of all pairs breaks exactly if it is not best for all used up amounts."""
        if not isinstance(table, Table):
            raise BadTable("table")
        pairs = [(source, use) for source in table.sources for use in table.uses]
        return Bars.of(pairs, best_demands(table, pairs, False))

    @staticmethod
    def ahead(pairs, first, then):
        """The one bar that says that first stands ahead of then."""
        check_pairs(pairs)
        if first not in pairs:
            raise BadPair(first)
        if then not in pairs or first == then:
            raise BadPair(then)
        return Bars(pairs, (then, first, None))

    @staticmethod
    def seen(pairs, sources, uses, filling):
        """The bars that an order breaks exactly if it does not explain a seen filling."""
        check_pairs(pairs)
        check_seen(sources, uses, filling)
        if not all([pair in pairs for pair in filling.pairs]):
            raise BadSeen("pairs")
        return Bars.of(pairs, seen_demands(pairs, sources, uses, filling))


def check_other(bars, other):
    """Raises BadBars("other") for what is no Bars of the same pairs."""
    if not isinstance(other, Bars) or bars.pairs != other.pairs:
        raise BadBars("other")


def check_seen_sides(sources, uses):
    """Raises BadSeen with the name of the first one that is no Side."""
    if not isinstance(sources, Side):
        raise BadSeen("sources")
    if not isinstance(uses, Side):
        raise BadSeen("uses")


def check_seen(sources, uses, filling):
    """Raises BadSeen for what is no seen filling."""
    check_seen_sides(sources, uses)
    if not isinstance(filling, Filling):
        raise BadSeen("filling")
    if not filling.fits(sources, uses):
        raise BadSeen("fit")


def turned(pair):
    """A pair with its use first; None stays."""
    if pair is None:
        return None
    return (pair[1], pair[0])


def turned_bar(bar):
    """A bar with each pair turned."""
    return (turned(bar[0]), turned(bar[1]), turned(bar[2]))


def joint_pairs(*tables):
    """All pairs in scope of some tables, ascending."""
    if not all([isinstance(table, Table) for table in tables]):
        raise BadTable("table")
    pairs = ascending(list({pair: True for table in tables for pair in table.pairs}))
    if len(pairs) > MOST_PAIRS:
        raise TooMany("pairs", MOST_PAIRS)
    return pairs


class Example:
    """Amounts for which an order that breaks a bar fills worse than can be."""

    def __init__(self, sources, uses, worse, better):
        self.sources = sources
        self.uses = uses
        self.worse = worse
        self.better = better

    def __eq__(self, other):
        return (isinstance(other, Example) and self.sources == other.sources and self.uses == other.uses
                and self.worse == other.worse and self.better == other.better)


def example(table, bar):
    """The Example of a bar of Bars.best of this table, for some pairs."""
    if not isinstance(table, Table):
        raise BadTable("table")
    if not is_best_bar(table, bar):
        raise BadBars("bar")
    own, others = bar[0], pairs_of(bar)[1:]
    sources = Side.of({pair[0]: 1 for pair in pairs_of(bar)})
    uses = Side.of({pair[1]: 1 for pair in pairs_of(bar)})
    worse = {own: 1}
    if len(others) == 2:
        fourth = fourth_pair(own, others)
        if fourth in table:
            worse[fourth] = 1
    return Example(sources, uses, Filling(worse), Filling({pair: 1 for pair in others}))


def is_best_bar(table, bar):
    """Whether a value is a bar of Bars.best of a table, for some pairs."""
    if not is_bar(bar):
        return False
    pairs = ascending(list({pair: True for pair in [*table.pairs, *pairs_of(bar)]}))
    return len(pairs) <= MOST_PAIRS and bar in Bars.best(table, pairs)


def fourth_pair(own, others):
    """Of two pairs, one with the source and one with the use of a third, the other ends together."""
    beside, across = others
    if beside[0] != own[0]:
        beside, across = across, beside
    return (across[0], beside[1])
