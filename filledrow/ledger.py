"""Ledgers: sources and uses whose amounts change deed by deed, and what is filled of them."""

from filledrow.errors import BadLedger, BadPair, FillError, Lacking, NoChange, NoName
from filledrow.fillings import Filling
from filledrow.kinds import ascending, is_pair
from filledrow.orders import Order
from filledrow.sides import Side, check_amounts
from filledrow.tables import Table
from filledrow.walks import taken_in_turn


def check_way(table, order):
    """Raises BadLedger("order") for what is no Order of just the pairs in scope of a table."""
    if not isinstance(order, Order) or ascending(order.pairs) != table.pairs:
        raise BadLedger("order")


class Mark:
    """What a ledger is at the beginning of a block; outer is the mark of the block of the same trial around it."""

    def __init__(self, ledger, outer):
        self.outer = outer
        self.kept = None
        self.sources = ledger.sources
        self.uses = ledger.uses
        self.filling = ledger.filling
        self.order = ledger._way
        self.table = ledger._rates
        self.words = ledger._words
        self.befores = ledger._befores


class Trial:
    """A block behind which a ledger is as ahead of it, unless it is kept and no error leaves it."""

    def __init__(self, ledger):
        self.ledger = ledger
        self._mark = None

    def keep(self):
        """What was done in the block stays."""
        mark = self._mark
        while mark is not None:
            mark.kept = True
            mark = mark.outer

    def __enter__(self):
        self._mark = Mark(self.ledger, self._mark)
        return self

    def __exit__(self, kind, value, trace):
        ledger = self.ledger
        if kind is not None or self._mark.kept is None:
            ledger.sources = self._mark.sources
            ledger.uses = self._mark.uses
            ledger.filling = self._mark.filling
            ledger._way = self._mark.order
            ledger._rates = self._mark.table
            ledger._words = self._mark.words
            ledger._befores = self._mark.befores
        self._mark = self._mark.outer


class Ledger:
    """A table, an order of just its pairs in scope, sides of sources and of uses, and a filling that fits them."""

    def __init__(self, table, order):
        if not isinstance(table, Table):
            raise BadLedger("table")
        check_way(table, order)
        self.sources = Side()
        self.uses = Side()
        self.filling = Filling({})
        self._rates = table
        self._way = order
        # The words of the deeds that can be taken back, and what the ledger was ahead of each. They are
        # never changed, only exchanged for others, so that a trial can put back those of its beginning.
        self._words = ()
        self._befores = ()

    @property
    def free(self):
        """What the sources have left."""
        return self.sources - self.filling.by_source

    @property
    def open_now(self):
        """What the uses have left."""
        return self.uses - self.filling.by_use

    @property
    def way(self):
        """The Order by which the ledger goes on."""
        return self._way

    @way.setter
    def way(self, value):
        self.set_way(value)

    @property
    def rates(self):
        """The Table of the worths."""
        return self._rates

    @rates.setter
    def rates(self, value):
        self.set_rates(value)

    def set_way(self, order):
        """Exchanges the order; the filling stays."""
        check_way(self._rates, order)
        self.note("order")
        self._way = order

    def set_rates(self, table):
        """Exchanges the table for one with the same names and pairs in scope; the filling stays."""
        rates = self._rates
        if not isinstance(table, Table) or table.pairs != rates.pairs:
            raise BadLedger("table")
        if table.sources != rates.sources or table.uses != rates.uses:
            raise BadLedger("table")
        self.note("table")
        self._rates = table

    def refilled(self):
        """The filling of the sources and the uses by the order, all at once."""
        way = self._way
        return way(self.sources, self.uses)

    def gap(self):
        """By how much refilling would earn more."""
        return self.refilled().worth_in(self._rates) - self.filling.worth_in(self._rates)

    def credit(self, source, amount):
        """A source gets so much more; returns the Filling that is added."""
        self.check_source(source)
        check_amounts([amount])
        self.note("credit")
        self.sources = self.sources + Side.of({source: amount})
        return self.go_on()

    def bill(self, use, amount):
        """A use wants so much more; returns the Filling that is added."""
        self.check_use(use)
        check_amounts([amount])
        self.note("bill")
        self.uses = self.uses + Side.of({use: amount})
        return self.go_on()

    def lapse(self, source):
        """What is free of a source is taken away; returns this amount."""
        self.check_source(source)
        self.note("lapse")
        amount = self.free[source]
        self.sources = self.sources - Side.of({source: amount})
        return amount

    def cancel(self, use, amount):
        """A use wants so much less; returns the Filling that is struck."""
        self.check_use(use)
        check_amounts([amount])
        if self.uses[use] < amount:
            raise Lacking(use)
        self.note("cancel")
        idle = self.open_now & Side.of({use: amount})
        struck = Filling(taken_in_turn(self.last_first(use), amount - idle.total, self.filling))
        self.uses = self.uses - Side.of({use: amount})
        self.filling = self.filling - struck
        self.go_on()
        return struck

    def refill(self):
        """The filling becomes that of refilled; returns the two Fillings of what is less and of what is more."""
        self.note("refill")
        before = self.filling
        self.filling = self.refilled()
        both = before & self.filling
        return (before - both, self.filling - both)

    def __getitem__(self, at):
        return self.filling[at]

    def __setitem__(self, at, amount):
        if not is_pair(at) or at[0] not in self._rates.sources or at[1] not in self._rates.uses:
            raise BadPair(at)
        check_amounts([amount])
        more = amount - self.filling[at]
        if more > self.free[at[0]]:
            raise Lacking(at[0])
        if more > self.open_now[at[1]]:
            raise Lacking(at[1])
        self.note("put")
        amounts = {pair: many for pair, many in self.filling}
        amounts[at] = amount
        self.filling = Filling(amounts)

    def undo(self):
        """Takes back the last deed that is not taken back; returns its word."""
        if not self._words:
            raise NoChange()
        word = self._words[-1]
        self.sources, self.uses, self.filling, self._rates, self._way = self._befores[-1]
        self._words = self._words[:-1]
        self._befores = self._befores[:-1]
        return word

    def __len__(self):
        return len(self._words)

    def __iter__(self):
        return iter(self._words)

    def trial(self):
        """A block behind which the ledger is as ahead of it, unless it is kept."""
        return Trial(self)

    def tried(self, work):
        """What a function returns for the ledger, which is behind it as ahead of it."""
        with Trial(self):
            return work(self)

    def attempt(self, work):
        """What a function returns for the ledger; what it did stays, unless an error leaves it."""
        try:
            with Trial(self) as block:
                told = work(self)
                block.keep()
        except FillError as error:
            raise BadLedger("work") from error
        return told

    def twin(self):
        """An equal ledger without deeds that goes its own way."""
        made = Ledger(self._rates, self._way)
        made.sources = self.sources
        made.uses = self.uses
        made.filling = self.filling
        return made

    def __eq__(self, other):
        return (isinstance(other, Ledger) and self._rates == other._rates and self._way == other._way
                and self.sources == other.sources and self.uses == other.uses and self.filling == other.filling)

    def check_source(self, name):
        """Raises NoName for what is no source of the table."""
        if name not in self._rates.sources:
            raise NoName(name)

    def check_use(self, name):
        """Raises NoName for what is no use of the table."""
        if name not in self._rates.uses:
            raise NoName(name)

    def note(self, word):
        """Keeps what the ledger is ahead of a deed."""
        before = (self.sources, self.uses, self.filling, self._rates, self._way)
        self._words = self._words + (word,)
        self._befores = self._befores + (before,)

    def go_on(self):
        """The order fills what is free and open; returns what is added."""
        way = self._way
        added = way(self.free, self.open_now)
        self.filling = self.filling + added
        return added

    def last_first(self, use):
        """The pairs of a use in the order in which they are struck."""
        strange = [pair for pair in self.filling.pairs if pair[1] == use and pair not in self._way]
        known = [pair for pair in self._way.pairs if pair[1] == use]
        return [*strange[::-1], *known[::-1]]
