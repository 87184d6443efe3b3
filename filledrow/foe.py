"""The foe: whoever brings comings that beat every rule, if the offers are not nested."""

from filledrow.errors import IsNested
from filledrow.kinds import is_integer
from filledrow.nested import Crossing, TwoWorths, check_offers, nested
from filledrow.offers import Coming
from filledrow.rules import check_rule, taken_for, worth_taken
from filledrow.sides import Side


class Game:
    """What a foe brought against a rule, what the rule took, and what would have earned more."""

    def __init__(self, sources, comings, taken, better):
        self.sources = sources
        self.comings = comings
        self.taken = taken
        self.better = better

    def __eq__(self, other):
        return (isinstance(other, Game) and self.sources == other.sources and self.comings == other.comings
                and self.taken == other.taken and self.better == other.better)


class Foe:
    """Whoever brings comings against rules for offers that are not nested."""

    def __init__(self, offers):
        reason = nested(offers)
        if reason:
            raise IsNested()
        self.reason = reason
        self.sources = Side.of({source: 1 for source in sources_in(reason)})
        self._offers = offers

    def play(self, rule):
        """The Game that is played against a rule."""
        check_rule(rule)
        use, answers = plan_against(self.reason)
        comings = [Coming(use, 1)]
        taken = [taken_for(rule, self._offers, self.sources, comings, 0)]
        first = [source for source in taken[0] if source in answers]
        if not first:
            return Game(self.sources, tuple(comings), tuple(taken), ({self.dearest_at(use): 1},))
        then, day = answers[first[0]]
        comings.append(Coming(then, 1, day))
        taken.append(taken_for(rule, self._offers, self.sources - Side.of(taken[0]), comings, 1))
        others = {source: 1 for source in self.sources.names if source != first[0]}
        return Game(self.sources, tuple(comings), tuple(taken), (others, {first[0]: 1}))

    def dearest_at(self, use):
        """Of the foe's sources the one that is worth most at a use, the least such one."""
        table = self._offers.table
        names = self.sources.names
        worths = [table[source, use] for source in names]
        return names[worths.index(max([int(worth) for worth in worths]))]


def sources_in(reason):
    """The sources that a reason names."""
    if isinstance(reason, TwoWorths):
        return [reason.source]
    if isinstance(reason, Crossing):
        return [reason.one, reason.other]
    return [reason.narrow, reason.wide]


def plan_against(reason):
    """The use that comes first, and for each source the spot that comes next if this one is taken."""
    if isinstance(reason, TwoWorths):
        return reason.less, {reason.source: (reason.more, 0)}
    if isinstance(reason, Crossing):
        return reason.shared, {reason.one: reason.by_one, reason.other: reason.by_other}
    return reason.shared, {reason.wide: reason.beyond}


def shows_game(offers, value):
    """Whether a value is a Game in which more could have been earned than was taken."""
    check_offers(offers)
    if not isinstance(value, Game) or not isinstance(value.sources, Side) or not are_comings(value.comings):
        return False
    if not all([can_be_taken(offers, value, rows) for rows in (value.taken, value.better)]):
        return False
    return worth_of_all(offers, value, value.better) > worth_of_all(offers, value, value.taken)


def are_comings(value):
    """Whether a value is a tuple of Comings whose days never fall."""
    if not isinstance(value, tuple) or not all([isinstance(coming, Coming) for coming in value]):
        return False
    return all([one.day <= other.day for one, other in zip(value, value[1:])])


def can_be_taken(offers, game, rows):
    """Whether a value is a tuple of what can be taken, one behind the other, for the comings of a game."""
    if not isinstance(rows, tuple) or len(rows) != len(game.comings):
        return False
    left = game.sources
    for coming, row in zip(game.comings, rows):
        if not is_taken(row, offers.servers(coming.use, coming.day)):
            return False
        taken = Side.of(row)
        if taken.total > coming.amount or not taken <= left:
            return False
        left = left - taken
    return True


def is_taken(row, servers):
    """Whether a value is a dict from some of the sources that serve to amounts above 0."""
    if not isinstance(row, dict) or not all([source in servers for source in row]):
        return False
    return all([is_integer(amount, 1) for amount in row.values()])


def worth_of_all(offers, game, rows):
    """The worth of what is taken for all comings of a game."""
    return sum([worth_taken(offers, coming, row) for coming, row in zip(game.comings, rows)])
