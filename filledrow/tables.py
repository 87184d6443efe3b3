"""Tables: a worth for each pair of a source and a use."""

from filledrow.errors import BadAmount, BadPair, BadTable, BadWorth, NoName, TooMany
from filledrow.kinds import MOST_NAMES, ascending, check_names, is_amount, is_integer, is_pair, is_row
from filledrow.words import STROKE, Words, number_text


def check_table(rows, uses):
    """Raises what a Table raises for its arguments, but TooMany."""
    if not isinstance(rows, dict) or not all([isinstance(row, dict) for row in rows.values()]):
        raise BadTable("rows")
    if not is_row(uses):
        raise BadTable("uses")
    check_names(list(rows))
    for row in rows.values():
        check_names(list(row))
    check_names(uses)
    for row in rows.values():
        check_worths(list(row.values()))


def check_worths(values):
    """Raises BadWorth with the first value that is no worth."""
    for value in values:
        if not is_amount(value):
            raise BadWorth(value)


def unlike(names):
    """The names of a list, each once, ascending."""
    return ascending(list({name: True for name in names}))


def joined(one, other):
    """All names of both of two lots, each once."""
    return unlike([*one, *other])


def row_text(table, source):
    """A source and its worths at all uses; behind an earlier source a sign parts them."""
    words = [source, *[number_text(table[source, use]) for use in table.uses]]
    if source != table.sources[0]:
        words = [";", *words]
    return " ".join(words)


class Table:
    """A worth for each pair of up to 6 sources and up to 6 uses."""

    def __init__(self, rows, uses=()):
        check_table(rows, uses)
        self.sources = ascending(list(rows))
        self.uses = joined(uses, [use for row in rows.values() for use in row])
        if len(self.sources) > MOST_NAMES:
            raise TooMany("sources", MOST_NAMES)
        if len(self.uses) > MOST_NAMES:
            raise TooMany("uses", MOST_NAMES)
        self._worths = {(a, x): worth for a, row in rows.items() for x, worth in row.items() if worth > 0}
        self.pairs = ascending(list(self._worths))

    def __len__(self):
        return len(self.pairs)

    def __iter__(self):
        return iter(self.pairs)

    def __contains__(self, x):
        return x in self.pairs

    def __getitem__(self, at):
        if not is_pair(at):
            raise BadPair(at)
        return self._worths.get(at, 0)

    def scope(self, source):
        """The uses with which a source is in scope."""
        if source not in self.sources:
            raise NoName(source)
        return tuple([use for use in self.uses if self[source, use] > 0])

    def takers(self, use):
        """The sources with which a use is in scope."""
        if use not in self.uses:
            raise NoName(use)
        return tuple([source for source in self.sources if self[source, use] > 0])

    def __add__(self, other):
        check_other(other)
        sources, uses = joined(self.sources, other.sources), joined(self.uses, other.uses)
        return Table({a: {x: self[a, x] + other[a, x] for x in uses} for a in sources}, uses)

    def __or__(self, other):
        check_other(other)
        sources, uses = joined(self.sources, other.sources), joined(self.uses, other.uses)
        return Table({a: {x: max(int(self[a, x]), int(other[a, x])) for x in uses} for a in sources}, uses)

    def __and__(self, other):
        check_other(other)
        sources, uses = joined(self.sources, other.sources), joined(self.uses, other.uses)
        return Table({a: {x: min(int(self[a, x]), int(other[a, x])) for x in uses} for a in sources}, uses)

    def __mul__(self, other):
        if not is_amount(other):
            raise BadAmount(other)
        return Table({a: {x: self[a, x] * other for x in self.uses} for a in self.sources}, self.uses)

    def __rmul__(self, other):
        return self * other

    def __floordiv__(self, other):
        if not is_integer(other, 1):
            raise BadAmount(other)
        return Table({a: {x: self[a, x] // other for x in self.uses} for a in self.sources}, self.uses)

    def __mod__(self, other):
        if not is_integer(other, 1):
            raise BadAmount(other)
        return Table({a: {x: self[a, x] % other for x in self.uses} for a in self.sources}, self.uses)

    def __invert__(self):
        return Table({x: {a: self[a, x] for a in self.sources} for x in self.uses}, self.sources)

    def __le__(self, other):
        check_other(other)
        return all([self[pair] <= other[pair] for pair in self.pairs])

    def __lt__(self, other):
        return self <= other and not other <= self

    def __ge__(self, other):
        check_other(other)
        return other <= self

    def __gt__(self, other):
        check_other(other)
        return other < self

    def __eq__(self, other):
        return (isinstance(other, Table) and self.sources == other.sources and self.uses == other.uses
                and self._worths == other._worths)

    def with_worth(self, source, use, worth):
        """The table with another worth of a pair; its names join if they are not known."""
        check_names((source, use))
        if not is_amount(worth):
            raise BadWorth(worth)
        rows = {a: {x: self[a, x] for x in self.uses} for a in self.sources}
        rows.setdefault(source, {})
        rows[source][use] = worth
        return Table(rows, self.uses)

    def without(self, *names):
        """The table without the sources and the uses of some names."""
        for name in names:
            if name not in self.sources and name not in self.uses:
                raise NoName(name)
        sources = [source for source in self.sources if source not in names]
        uses = [use for use in self.uses if use not in names]
        return Table({a: {x: self[a, x] for x in uses} for a in sources}, uses)

    @staticmethod
    def flat(scopes, worth=1):
        """The table with one worth for all pairs in scope."""
        if not isinstance(scopes, dict) or not all([is_row(uses) for uses in scopes.values()]):
            raise BadTable("scopes")
        check_names(list(scopes))
        for uses in scopes.values():
            check_names(uses)
        check_worths([worth])
        return Table({source: {use: worth for use in row} for source, row in scopes.items()})

    @staticmethod
    def rated(by_source, by_use):
        """The table of the products of a rate of the source and a rate of the use."""
        if not isinstance(by_source, dict):
            raise BadTable("by_source")
        if not isinstance(by_use, dict):
            raise BadTable("by_use")
        check_names([*by_source, *by_use])
        check_worths([*list(by_source.values()), *list(by_use.values())])
        return Table({a: {x: by_source[a] * by_use[x] for x in by_use} for a in by_source}, list(by_use))

    def __str__(self):
        return " ".join([*self.uses, ":", *[row_text(self, source) for source in self.sources]])

    @classmethod
    def read(cls, text):
        """The table with this text."""
        words = Words(text)
        rows, uses = take_rows(words)
        words.take_end()
        return cls(rows, uses)


def take_rows(words):
    """The rows and the uses of a table. They end with the text, or ahead of a stroke, with which offers go on."""
    uses = []
    while words.word_now() != ":":
        uses.append(words.take_name("", uses[-1] if uses else ""))
    words.take_one((":",))
    rows = {}
    source = ""
    while words.word_now() not in (None, STROKE):
        if rows:
            words.take_one((";",))
        source = words.take_name("", source)
        rows[source] = {}
        for use in uses:
            rows[source][use] = words.take_number(0)
    return rows, uses


def check_other(other):
    """Raises BadTable("other") for what is no Table."""
    if not isinstance(other, Table):
        raise BadTable("other")
