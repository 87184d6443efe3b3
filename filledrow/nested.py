"""Nested offers, for which some rule is right, and the reasons why offers are not nested."""

from filledrow.bars import Bars
from filledrow.errors import BadOffer
from filledrow.offers import Offers
from filledrow.peels import find_order


class Nested:
    """Offers are nested: for each use in some scope its sources, in the order of the rule that is right."""

    def __init__(self, lists):
        self.lists = lists

    def __eq__(self, other):
        return isinstance(other, Nested) and self.lists == other.lists


class Unnested:
    """Offers are not nested. It is false."""

    def __bool__(self):
        return False


class TwoWorths(Unnested):
    """A source has two worths: less at the one use, more at the other."""

    def __init__(self, source, less, more):
        self.source = source
        self.less = less
        self.more = more

    def __eq__(self, other):
        return (isinstance(other, TwoWorths) and self.source == other.source and self.less == other.less
                and self.more == other.more)


class Crossing(Unnested):
    """Two sources share a use, and each serves at a spot that the other one does not serve."""

    def __init__(self, one, other, shared, by_one, by_other):
        self.one = one
        self.other = other
        self.shared = shared
        self.by_one = by_one
        self.by_other = by_other

    def __eq__(self, other):
        return (isinstance(other, Crossing) and self.one == other.one and self.other == other.other
                and self.shared == other.shared and self.by_one == other.by_one and self.by_other == other.by_other)


class Dearer(Unnested):
    """Of two sources that share a use the wider one is worth more, and serves at a spot beyond the narrower one."""

    def __init__(self, narrow, wide, shared, beyond):
        self.narrow = narrow
        self.wide = wide
        self.shared = shared
        self.beyond = beyond

    def __eq__(self, other):
        return (isinstance(other, Dearer) and self.narrow == other.narrow and self.wide == other.wide
                and self.shared == other.shared and self.beyond == other.beyond)


def check_offers(offers):
    """Raises BadOffer("offers") for what is no Offers."""
    if not isinstance(offers, Offers):
        raise BadOffer("offers")


def nested(offers):
    """Nested, or the first reason why the offers are not."""
    check_offers(offers)
    reason = two_worths(offers)
    if reason is None:
        reason = crossing(offers)
    if reason is None:
        reason = dearer(offers)
    if reason is None:
        table = offers.table
        return Nested({use: listed(offers, use) for use in table.uses if table.takers(use)})
    return reason


def two_worths(offers):
    """TwoWorths of the least source that has two, None if there is none."""
    table = offers.table
    for source in offers:
        uses = table.scope(source)
        worths = [table[source, use] for use in uses]
        low = min([int(worth) for worth in worths], default=0)
        high = max([int(worth) for worth in worths], default=0)
        if low < high:
            return TwoWorths(source, uses[worths.index(low)], uses[worths.index(high)])
    return None


def crossing(offers):
    """Crossing of the least two sources of which none is no wider than the other one, None if there are none."""
    for one, other, shared in sharing(offers):
        if not offers.no_wider(one, other) and not offers.no_wider(other, one):
            return Crossing(one, other, shared, first_spot(offers, one, other), first_spot(offers, other, one))
    return None


def dearer(offers):
    """Dearer of the least two sources of which the narrower one is worth less, None if there are none."""
    for narrow, wide, shared in sharing(offers):
        if not offers.no_wider(wide, narrow) and offers.table[narrow, shared] < offers.table[wide, shared]:
            return Dearer(narrow, wide, shared, first_spot(offers, wide, narrow))
    return None


def sharing(offers):
    """All (one, other, shared), ascending: two sources, either way round, and the least use that they share."""
    table = offers.table
    rows = []
    for one in offers:
        for other in offers:
            uses = [use for use in table.scope(one) if (other, use) in table]
            if one != other and uses:
                rows.append((one, other, uses[0]))
    return rows


def first_spot(offers, one, other):
    """The first spot that a source serves and another one, than which it is not no wider, does not."""
    uses = offers.table.scope(one)
    alone = [use for use in uses if (other, use) not in offers.table]
    if alone:
        return (alone[0], 0)
    return (uses[0], offers.end(other) + 1)


def listed(offers, use):
    """The sources of a use: narrower ones first, equally wide ones by worth, falling, then ascending."""
    row = []
    for source in offers.table.takers(use):
        # Those that stand in the row have lesser names, so of equally good ones they stay ahead.
        row.insert(len([other for other in row if can_be_ahead(offers, use, other, source)]), source)
    return tuple(row)


def can_be_ahead(offers, use, one, other):
    """Whether a source can stand ahead of another one at a use: it is no wider and worth no less there."""
    return offers.no_wider(one, other) and offers.table[one, use] >= offers.table[other, use]


def narrow_order(offers):
    """The least order of all pairs in scope in which at each use the sources stand as in the lists."""
    told = nested(offers)
    if not told:
        raise BadOffer("nested")
    pairs = offers.table.pairs
    rows = [((b, use), (a, use), None) for use, row in told.lists.items() for a, b in zip(row, row[1:])]
    return find_order(Bars.of(pairs, rows)).order
