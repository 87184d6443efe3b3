"""A look at examples: whether they show what they should. Nothing is searched."""

from filledrow.bars import Example
from filledrow.errors import BadBars, BadTable
from filledrow.fillings import Filling
from filledrow.orders import Order
from filledrow.sides import Side
from filledrow.tables import Table


def shows_example(table, order, paper):
    """Whether a value is an Example at which an order fills worse than can be."""
    if not isinstance(table, Table):
        raise BadTable("table")
    if not isinstance(order, Order):
        raise BadBars("order")
    if not isinstance(paper, Example) or not isinstance(paper.better, Filling):
        return False
    if not isinstance(paper.sources, Side) or not isinstance(paper.uses, Side):
        return False
    worse = order(paper.sources, paper.uses)
    if worse != paper.worse or not paper.better.fits(paper.sources, paper.uses):
        return False
    return paper.better.worth_in(table) > worse.worth_in(table)
