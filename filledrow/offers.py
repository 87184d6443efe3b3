"""Offers: a table whose sources can have a last day, and the comings that are served of them."""

from filledrow.errors import BadAmount, BadDay, BadName, BadOffer, BadTable, NoName, TooMany
from filledrow.kinds import is_amount, is_name, is_row
from filledrow.tables import Table, take_rows
from filledrow.words import STROKE, Words, number_text

MOST_COMINGS = 40


def check_table(table):
    """Raises BadTable("table") for what is no Table."""
    if not isinstance(table, Table):
        raise BadTable("table")


def kept_ends(table, ends):
    """The last days of a dict, ascending, without None; raises NoName and BadDay in the order of the dict."""
    for source in ends:
        if source not in table.sources:
            raise NoName(source)
    for day in ends.values():
        if day is not None and not is_amount(day):
            raise BadDay(day)
    return {source: ends[source] for source in table.sources if source in ends and ends[source] is not None}


class Offers:
    """A table and, for some of its sources, a last day."""

    # `self` is a keyword that must be told as no source, so the object itself goes by a name that is no name here.
    def __init__(offers_itself, table, **ends):
        check_table(table)
        offers_itself.table = table
        offers_itself._ends = kept_ends(table, {name: ends[name] for name in sorted([str(name) for name in ends])})

    @classmethod
    def of(cls, table, ends):
        """The Offers of a table and a dict of last days."""
        check_table(table)
        if not isinstance(ends, dict):
            raise BadOffer("ends")
        # By its own name: what is called `of` is called by signs, and nothing that is passed may be called there.
        made = Offers(table)
        # Not by keywords: a source can be called `table`, too.
        made._ends = kept_ends(table, ends)
        return made

    @property
    def ends(self):
        """A new dict from the sources with a last day to it."""
        return {source: self._ends[source] for source in self._ends}

    def end(self, source):
        """The last day of a source; None if it never runs out."""
        if source not in self.table.sources:
            raise NoName(source)
        return self._ends.get(source, None)

    def __len__(self):
        return len(self.table.sources)

    def __iter__(self):
        return iter(self.table.sources)

    def __contains__(self, x):
        return x in self.table.sources

    def servers(self, use, day):
        """The sources that serve a use on a day, ascending."""
        if not is_name(use):
            raise BadName(use)
        if not is_amount(day):
            raise BadDay(day)
        takers = [source for source in self.table.sources if (source, use) in self.table]
        return tuple([source for source in takers if source not in self._ends or day <= self._ends[source]])

    def no_wider(self, one, other):
        """Whether a source is no wider than another one, or itself."""
        end, other_end = self.end(one), self.end(other)
        if not all([(other, use) in self.table for use in self.table.scope(one)]):
            return False
        return other_end is None or (end is not None and end <= other_end)

    def ended(self, source, day):
        """The Offers with another last day of a source, None for none."""
        if source not in self.table.sources:
            raise NoName(source)
        return Offers.of(self.table, {**self._ends, source: day})

    def __eq__(self, other):
        return isinstance(other, Offers) and self.table == other.table and self._ends == other._ends

    def __str__(self):
        if not self._ends:
            return str(self.table)
        return " ".join([str(self.table), STROKE, *[f"{name} {number_text(day)}" for name, day in self._ends.items()]])

    @classmethod
    def read(cls, text):
        """The Offers with this text."""
        words = Words(text)
        rows, uses = take_rows(words)
        ends = {}
        if not words.at_end():
            words.take_one((STROKE,))
            ends = words.take_numbers(0)
        return cls.of(Table(rows, uses), ends)


class Coming:
    """What comes: a use, with an amount, on a day."""

    def __init__(self, use, amount, day=0):
        if not is_name(use):
            raise BadName(use)
        if not is_amount(amount):
            raise BadAmount(amount)
        if not is_amount(day):
            raise BadDay(day)
        self.use = use
        self.amount = amount
        self.day = day

    def __eq__(self, other):
        return (isinstance(other, Coming) and self.use == other.use and self.amount == other.amount
                and self.day == other.day)


def check_comings(comings):
    """Raises BadOffer or TooMany for what are no comings one behind the other."""
    if not is_row(comings):
        raise BadOffer("comings")
    if len(comings) > MOST_COMINGS:
        raise TooMany("comings", MOST_COMINGS)
    last = 0
    for at, coming in enumerate(comings):
        if not isinstance(coming, Coming) or coming.day < last:
            raise BadOffer(at)
        last = coming.day
