"""Orders by sources and by uses: those in which the pairs of each one stand side by side."""

from filledrow.kinds import ascending
from filledrow.orders import Order
from filledrow.peels import check_bars, free_among, has_bit, masks_of, own_bars


class BySides:
    """The sources, or the uses, in their order, and an order that goes by them and breaks no bar."""

    def __init__(self, names, order):
        self.names = names
        self.order = order

    def __eq__(self, other):
        return isinstance(other, BySides) and self.names == other.names and self.order == other.order


class StuckSides:
    """Sources, or uses, none of which can come first, with their pairs that are held, and the bars. It is false."""

    def __init__(self, held):
        self.held = held

    def __eq__(self, other):
        return isinstance(other, StuckSides) and self.held == other.held

    def __bool__(self):
        return False


def find_by_sources(bars):
    """The least order by sources that breaks no bar, or the sources that stay."""
    check_bars(bars)
    return found_by(bars, 0)


def find_by_uses(bars):
    """The least order by uses that breaks no bar, or the uses that stay."""
    check_bars(bars)
    return found_by(bars, 1)


def found_by(bars, end):
    """The least order by the names at one end of the pairs: takes off the least name that can be, again and again."""
    masks = masks_of(bars)
    groups = {name: group_of(bars, end, name) for name in names_at(bars, end)}
    left = (1 << len(masks)) - 1
    names, row = [], []
    name = next_name(masks, left, groups)
    while name is not None:
        names.append(name)
        row.extend(peeled(masks, left, groups[name]))
        left = left - bits_of(groups[name])
        name = next_name(masks, left, groups)
    if left == 0:
        return BySides(tuple(names), Order.of([bars.pairs[k] for k in row]))
    stuck = [other for other in groups if other not in names]
    return StuckSides(tuple([(other, held_in(bars, masks, left, groups[other])) for other in stuck]))


def names_at(bars, end):
    """The sources (end 0), or the uses (end 1), of the pairs, ascending."""
    return ascending(list({pair[end]: True for pair in bars.pairs}))


def group_of(bars, end, name):
    """The indexes of the pairs of a source, or of a use."""
    return [k for k, pair in enumerate(bars.pairs) if pair[end] == name]


def bits_of(group):
    """The bits of some indexes."""
    return sum([1 << k for k in group])


def next_name(masks, left, groups):
    """The least name that is left and whose pairs can all be taken off, None if there is none."""
    for name in groups:
        if len(peeled(masks, left, groups[name])) == len(groups[name]):
            return name
    return None


def peeled(masks, left, group):
    """Takes off the least free pair of a group, again and again; the row of what came off."""
    row = []
    found = [k for k in free_among(masks, left) if k in group]
    while found:
        row.append(found[0])
        left = left - (1 << found[0])
        found = [k for k in free_among(masks, left) if k in group]
    return row


def held_in(bars, masks, left, group):
    """The pairs of a group that are left when its free pairs are taken off, each with the first bar that holds it."""
    still = left - bits_of(peeled(masks, left, group))
    own = own_bars(bars)
    return tuple([(bars.pairs[k], first_holding(own[k], masks[k], still)) for k in group if has_bit(still, k)])


def first_holding(own, masks, left):
    """The first of the bars of a pair that holds it when just some pairs are left."""
    return [bar for bar, mask in zip(own, masks) if (mask & left) == mask][0]
