"""A look at what is told of offers: whether they are nested, or why they are not. Nothing is searched."""

from filledrow.kinds import is_amount, is_name
from filledrow.nested import Crossing, Dearer, Nested, TwoWorths, can_be_ahead, check_offers


def shows_nested(offers, value):
    """Whether a value is a Nested or an Unnested that is right."""
    check_offers(offers)
    if isinstance(value, Nested):
        return have_one_worth(offers) and are_lists(offers, value.lists)
    if isinstance(value, TwoWorths):
        return 0 < worth_at(offers, value.source, value.less) < worth_at(offers, value.source, value.more)
    if isinstance(value, Crossing):
        return is_crossing(offers, value)
    if isinstance(value, Dearer):
        return is_dearer(offers, value)
    return False


def worth_at(offers, source, use):
    """The worth of a source at a use, any values; 0 for what is no pair in scope."""
    if (source, use) not in offers.table:
        return 0
    return offers.table[source, use]


def have_one_worth(offers):
    """Whether each source has one worth in its whole scope."""
    table = offers.table
    return all([table[a, x] == table[a, table.scope(a)[0]] for a, x in table.pairs])


def are_lists(offers, value):
    """Whether a value is a dict from just the uses in some scope to their sources in a right order."""
    uses = [use for use in offers.table.uses if offers.table.takers(use)]
    if not isinstance(value, dict) or len(value) != len(uses) or not all([use in value for use in uses]):
        return False
    return all([is_list(offers, use, value[use]) for use in uses])


def is_list(offers, use, value):
    """Whether a value is a tuple of the sources of a use, each no wider than the next one and worth no less."""
    takers = offers.table.takers(use)
    if not isinstance(value, tuple) or len(value) != len(takers) or not all([taker in value for taker in takers]):
        return False
    return all([can_be_ahead(offers, use, one, other) for one, other in zip(value, value[1:])])


def serves_alone(offers, one, other, spot):
    """Whether a value is a spot that a source serves, and another one does not."""
    if not isinstance(spot, tuple) or len(spot) != 2 or not is_name(spot[0]) or not is_amount(spot[1]):
        return False
    servers = offers.servers(spot[0], spot[1])
    return one in servers and other not in servers


def is_crossing(offers, value):
    """Whether a Crossing is right."""
    one, other = value.one, value.other
    worth, other_worth = worth_at(offers, one, value.shared), worth_at(offers, other, value.shared)
    if worth == 0 or other_worth == 0:
        return False
    if not serves_alone(offers, one, other, value.by_one) or not serves_alone(offers, other, one, value.by_other):
        return False
    if worth >= other_worth + worth_at(offers, one, value.by_one[0]):
        return False
    return other_worth < worth + worth_at(offers, other, value.by_other[0])


def is_dearer(offers, value):
    """Whether a Dearer is right."""
    narrow, wide = value.narrow, value.wide
    worth, wide_worth = worth_at(offers, narrow, value.shared), worth_at(offers, wide, value.shared)
    if worth == 0 or not serves_alone(offers, wide, narrow, value.beyond):
        return False
    return worth < wide_worth < worth + worth_at(offers, wide, value.beyond[0])
