"""Orders: rows of unlike pairs, and the filling by them."""

from filledrow.errors import BadOrder, BadPair, BadTable, NoPair, TooMany
from filledrow.fillings import Filling, check_sides
from filledrow.kinds import MOST_PAIRS, is_integer, is_pair, is_row
from filledrow.tables import Table
from filledrow.walks import walk
from filledrow.words import Words


def check_pairs(values):
    """Raises BadPair with the first value that is no pair."""
    for value in values:
        if not is_pair(value):
            raise BadPair(value)


def check_other(other):
    """Raises BadOrder("other") for what is no Order."""
    if not isinstance(other, Order):
        raise BadOrder("other")


def pairs_by_worth(table):
    """The pairs in scope of a table, those of greater worth first, those of equal worth ascending."""
    if not isinstance(table, Table):
        raise BadTable("table")
    worths = sorted([int(table[pair]) for pair in table.pairs], reverse=True)
    row = []
    for worth in worths:
        row.extend([pair for pair in table.pairs if table[pair] == worth and pair not in row])
    return row


class Order:
    """A row of unlike pairs."""

    def __init__(self, *pairs):
        check_pairs(pairs)
        if len(set(pairs)) < len(pairs):
            raise BadOrder("twice")
        if len(pairs) > MOST_PAIRS:
            raise TooMany("pairs", MOST_PAIRS)
        self.pairs = pairs

    @classmethod
    def of(cls, pairs):
        """The Order of a list or tuple of pairs."""
        if not is_row(pairs):
            raise BadOrder("pairs")
        # By its own name: the signs come here, and nothing that is passed may be called behind a sign.
        return Order(*pairs)

    def __len__(self):
        return len(self.pairs)

    def __iter__(self):
        return iter(self.pairs)

    def __contains__(self, x):
        return x in self.pairs

    def __getitem__(self, at):
        if at.__class__.__name__ == "slice":
            return Order.of(self.pairs[at])
        if not is_integer(at, -len(self.pairs)) or at >= len(self.pairs):
            raise BadOrder(at)
        return self.pairs[at]

    def place(self, pair):
        """The index of a pair."""
        if pair not in self.pairs:
            raise NoPair(pair)
        return self.pairs.index(pair)

    def moved(self, pair, k):
        """The Order in which a pair has another index, and the others stand as before."""
        if pair not in self.pairs:
            raise NoPair(pair)
        if not is_integer(k, 0) or k >= len(self.pairs):
            raise BadOrder("place")
        others = [other for other in self.pairs if other != pair]
        return Order.of([*others[:k], pair, *others[k:]])

    def __add__(self, other):
        check_other(other)
        return Order.of(self.pairs + other.pairs)

    def __sub__(self, other):
        check_other(other)
        return Order.of([pair for pair in self.pairs if pair not in other.pairs])

    def __and__(self, other):
        check_other(other)
        return Order.of([pair for pair in self.pairs if pair in other.pairs])

    def __le__(self, other):
        check_other(other)
        return list(self.pairs) == [pair for pair in other.pairs if pair in self.pairs]

    def __invert__(self):
        return Order.of([(use, source) for source, use in self.pairs])

    def reduced(self, pairs):
        """The Order of just those of its pairs that stand in a list or tuple."""
        if not is_row(pairs):
            raise BadOrder("pairs")
        check_pairs(pairs)
        return Order.of([pair for pair in self.pairs if pair in pairs])

    def __call__(self, sources, uses):
        """The filling by the order, of the amounts of two Sides."""
        check_sides(sources, uses)
        return Filling({row[0]: row[1] for row in walk(self.pairs, sources, uses)})

    def __eq__(self, other):
        return isinstance(other, Order) and self.pairs == other.pairs

    def __str__(self):
        if not self.pairs:
            return "-"
        return " ; ".join([f"{source} {use}" for source, use in self.pairs])

    @classmethod
    def read(cls, text):
        """The Order with this text."""
        words = Words(text)
        if words.take_dash():
            words.take_end()
            return cls()
        pairs = [words.take_pair()]
        while not words.at_end():
            words.take_one((";",))
            pairs.append(words.take_pair())
        return cls.of(pairs)

    @staticmethod
    def by_worth(table):
        """The pairs in scope, those of greater worth first, those of equal worth ascending."""
        return Order.of(pairs_by_worth(table))

    @staticmethod
    def by_sources(table):
        """The pairs in scope, source by source, ascending, those of one source as by_worth has them."""
        row = pairs_by_worth(table)
        return Order.of([pair for source in table.sources for pair in row if pair[0] == source])
