"""Reading ledgers from their texts, row by row."""

from filledrow.errors import BadText, FillError
from filledrow.fillings import Filling
from filledrow.kinds import ascending
from filledrow.ledger import Ledger
from filledrow.orders import Order
from filledrow.sides import Side
from filledrow.tables import Table

HEADS = ("table", "order", "sources", "uses", "filling")


def read_ledger(text):
    """The Ledger with this text, without deeds."""
    if not isinstance(text, str):
        raise BadText(0, 0)
    rows = text.split("\n")
    table = told_in(rows, 0)
    order = told_in(rows, 1)
    check_row(1, ascending(order.pairs) == table.pairs)
    sources = told_in(rows, 2)
    check_row(2, all([name in table.sources for name in sources.names]))
    uses = told_in(rows, 3)
    check_row(3, all([name in table.uses for name in uses.names]))
    filling = told_in(rows, 4)
    # What fits the sides has no names but theirs, so none but those of the table.
    check_row(4, filling.fits(sources, uses))
    check_row(5, len(rows) == len(HEADS))
    made = Ledger(table, order)
    made.sources = sources
    made.uses = uses
    made.filling = filling
    return made


def check_row(line, is_right):
    """Raises BadText for a row that is refused."""
    if not is_right:
        raise BadText(line, 0)


def told_in(rows, line):
    """What a row tells behind its first word."""
    if line == len(rows):
        raise BadText(line, 0)
    head = HEADS[line]
    check_row(line, rows[line].split(" ")[0] == head)
    try:
        return read_part(line, rows[line][len(head) + 1:])
    except BadText as error:
        raise BadText(line, error.word + 1) from None
    except FillError:
        raise BadText(line, 0) from None


def read_part(line, text):
    """What the text of a row behind its first word tells."""
    if line == 0:
        return Table.read(text)
    if line == 1:
        return Order.read(text)
    if line == 4:
        return Filling.read(text)
    return Side.read(text)
