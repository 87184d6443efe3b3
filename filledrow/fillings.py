"""Fillings: amounts of pairs."""

from filledrow.errors import BadAmount, BadFilling, BadPair, BadSide, BadTable, Lacking
from filledrow.kinds import ascending, is_amount, is_integer, is_pair
from filledrow.sides import Side
from filledrow.tables import Table
from filledrow.words import Words, number_text


def check_other(other):
    """Raises BadFilling("other") for what is no Filling."""
    if not isinstance(other, Filling):
        raise BadFilling("other")


def check_filling(amounts):
    """Raises what a Filling raises for its argument."""
    if not isinstance(amounts, dict):
        raise BadFilling("amounts")
    for pair in amounts:
        if not is_pair(pair):
            raise BadPair(pair)
    for amount in amounts.values():
        if not is_amount(amount):
            raise BadAmount(amount)


def check_sides(sources, uses):
    """Raises BadSide with the name of the first one that is no Side."""
    if not isinstance(sources, Side):
        raise BadSide("sources")
    if not isinstance(uses, Side):
        raise BadSide("uses")


def sums_by(amounts, end):
    """The Side of the sums of each source (end 0), or of each use (end 1)."""
    sums = {}
    for pair, amount in amounts.items():
        sums[pair[end]] = sums.get(pair[end], 0) + amount
    return Side.of(sums)


class Filling:
    """Amounts of pairs; 0 is as if not told."""

    def __init__(self, amounts):
        check_filling(amounts)
        self.pairs = ascending([pair for pair, amount in amounts.items() if amount > 0])
        self.by_source = sums_by(amounts, 0)
        self.by_use = sums_by(amounts, 1)
        self.total = sum([amounts[pair] for pair in self.pairs])
        self._amounts = {pair: amounts[pair] for pair in self.pairs}
        self._rows = tuple([(pair, amounts[pair]) for pair in self.pairs])

    def __len__(self):
        return len(self.pairs)

    def __iter__(self):
        return iter(self._rows)

    def __contains__(self, x):
        return x in self.pairs

    def __getitem__(self, at):
        if not is_pair(at):
            return 0
        return self._amounts.get(at, 0)

    def worth_in(self, table):
        """The worth of the filling by a table."""
        if not isinstance(table, Table):
            raise BadTable("table")
        return sum([amount * table[pair] for pair, amount in self._rows])

    def fits(self, sources, uses):
        """Whether no source and no use has more in the filling than its amount."""
        check_sides(sources, uses)
        return self.by_source <= sources and self.by_use <= uses

    def uses_up(self, sources, uses):
        """Whether all sources and all uses have just their amounts in the filling."""
        check_sides(sources, uses)
        return self.by_source == sources and self.by_use == uses

    def __add__(self, other):
        check_other(other)
        return Filling({pair: self[pair] + other[pair] for pair in self.pairs + other.pairs})

    def __sub__(self, other):
        check_other(other)
        for pair in other.pairs:
            if self[pair] < other[pair]:
                raise Lacking(pair)
        return Filling({pair: self[pair] - other[pair] for pair in self.pairs})

    def __and__(self, other):
        check_other(other)
        return Filling({pair: min(int(self[pair]), int(other[pair])) for pair in self.pairs})

    def __or__(self, other):
        check_other(other)
        return Filling({pair: max(int(self[pair]), int(other[pair])) for pair in self.pairs + other.pairs})

    def __mul__(self, other):
        if not is_amount(other):
            raise BadAmount(other)
        return Filling({pair: self[pair] * other for pair in self.pairs})

    def __rmul__(self, other):
        return self * other

    def __floordiv__(self, other):
        if not is_integer(other, 1):
            raise BadAmount(other)
        return Filling({pair: self[pair] // other for pair in self.pairs})

    def __mod__(self, other):
        if not is_integer(other, 1):
            raise BadAmount(other)
        return Filling({pair: self[pair] % other for pair in self.pairs})

    def __invert__(self):
        return Filling({(use, source): self[source, use] for source, use in self.pairs})

    def __le__(self, other):
        check_other(other)
        return all([self[pair] <= other[pair] for pair in self.pairs])

    def __lt__(self, other):
        return self <= other and not self == other

    def __eq__(self, other):
        return isinstance(other, Filling) and self._rows == other._rows

    def __str__(self):
        if not self.pairs:
            return "-"
        return " ; ".join([f"{pair[0]} {pair[1]} {number_text(amount)}" for pair, amount in self._rows])

    @classmethod
    def read(cls, text):
        """The Filling with this text."""
        words = Words(text)
        amounts = take_filled(words)
        words.take_end()
        return cls(amounts)


def take_filled(words):
    """The amounts of a filling, which end with the text."""
    if words.take_dash():
        return {}
    pair = words.take_pair()
    amounts = {pair: words.take_number(1)}
    while not words.at_end():
        words.take_one((";",))
        pair = words.take_pair(pair)
        amounts[pair] = words.take_number(1)
    return amounts
