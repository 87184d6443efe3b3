"""Rules: what is taken for each coming, before the next one is known; and the most that could have been earned."""

from filledrow.errors import BadAmount, BadOffer, BadRule, BadSide, Lacking, NoName
from filledrow.flows import best_amounts
from filledrow.kinds import check_names, is_amount, is_name, is_row
from filledrow.offers import Offers, check_comings
from filledrow.sides import Side
from filledrow.walks import taken_in_turn
from filledrow.words import STROKE, Words

WORDS = ("narrowest", "dearest", "soonest", "listed")


class Rule:
    """The base of all rules; it is not made itself, and takes nothing."""

    def __call__(self, use, amount, day, left, offers):
        return {}

    def __or__(self, other):
        return both_rules(self, other)

    @staticmethod
    def read(text):
        """The Rule with this text."""
        words = Words(text)
        parts = [take_part(words)]
        while not words.at_end():
            words.take_one((STROKE,))
            parts.append(take_part(words))
        # Not before all words can stand: a list that has a name twice is told behind them.
        rules = tuple([rule_of(word, lists) for word, lists in parts])
        if len(rules) == 1:
            return rules[0]
        return Joined(rules)


class Narrowest(Rule):
    """Goes first through the sources that have the fewest uses in their scopes."""

    def __call__(self, use, amount, day, left, offers):
        return taken_in_turn(self.row(use, day, offers), amount, left)

    def row(self, use, day, offers):
        """The sources that the rule goes through for a coming."""
        servers = offers.servers(use, day)
        return ranked({source: rank_by_width(offers, source, use) for source in servers})

    def __or__(self, other):
        return both_rules(self, other)

    def __eq__(self, other):
        return isinstance(other, Narrowest)

    def __str__(self):
        return "narrowest"


class Dearest(Rule):
    """Goes first through the sources that are worth most at the use."""

    def __call__(self, use, amount, day, left, offers):
        return taken_in_turn(self.row(use, day, offers), amount, left)

    def row(self, use, day, offers):
        """The sources that the rule goes through for a coming."""
        servers = offers.servers(use, day)
        return ranked({source: (-offers.table[source, use], *rank_by_width(offers, source, use)) for source in servers})

    def __or__(self, other):
        return both_rules(self, other)

    def __eq__(self, other):
        return isinstance(other, Dearest)

    def __str__(self):
        return "dearest"


class Soonest(Rule):
    """Goes first through the sources that run out first."""

    def __call__(self, use, amount, day, left, offers):
        return taken_in_turn(self.row(use, day, offers), amount, left)

    def row(self, use, day, offers):
        """The sources that the rule goes through for a coming."""
        servers = offers.servers(use, day)
        return ranked({source: rank_by_end(offers, source) + rank_by_width(offers, source, use) for source in servers})

    def __or__(self, other):
        return both_rules(self, other)

    def __eq__(self, other):
        return isinstance(other, Soonest)

    def __str__(self):
        return "soonest"


class Listed(Rule):
    """Goes through the sources that stand in the list of the use."""

    def __init__(self, lists):
        check_lists(lists)
        self._lists = {use: tuple(lists[use]) for use in lists}

    def __call__(self, use, amount, day, left, offers):
        return taken_in_turn(self.row(use, day, offers), amount, left)

    def row(self, use, day, offers):
        """The sources that the rule goes through for a coming."""
        servers = offers.servers(use, day)
        return tuple([source for source in self._lists.get(use, ()) if source in servers])

    def __or__(self, other):
        return both_rules(self, other)

    def __eq__(self, other):
        return isinstance(other, Listed) and self._lists == other._lists

    def __str__(self):
        uses = sorted([str(use) for use in self._lists])
        return " ; ".join(["listed", *[" ".join([use, *self._lists[use]]) for use in uses]])


class By(Rule):
    """Takes what a function tells."""

    def __init__(self, work):
        self._work = work

    def __call__(self, use, amount, day, left, offers):
        work = self._work
        told = work(use, amount, day, left, offers)
        check_taken(told, left, offers, offers.servers(use, day))
        if sum([told[source] for source in told]) > amount:
            raise BadRule("taken") from Lacking(use)
        return {source: told[source] for source in told if told[source] > 0}

    def __or__(self, other):
        return both_rules(self, other)

    def __eq__(self, other):
        return isinstance(other, By) and self._work == other._work

    def __str__(self):
        return "by"


class Joined(Rule):
    """Takes what one rule takes and then, of what is left, for what is still lacking, what the next one takes."""

    def __init__(self, rules):
        self.rules = rules

    def __call__(self, use, amount, day, left, offers):
        taken = Side()
        for rule in self.rules:
            if taken.total < amount:
                taken = taken + Side.of(rule(use, amount - taken.total, day, left - taken, offers))
        return {source: taken[source] for source in taken.names}

    def __or__(self, other):
        return both_rules(self, other)

    def __eq__(self, other):
        return isinstance(other, Joined) and self.rules == other.rules

    def __str__(self):
        return " | ".join([str(rule) for rule in self.rules])


def both_rules(one, other):
    """Two rules, each perhaps a joined one, joined in one row."""
    if not isinstance(other, Rule):
        raise BadRule("other")
    return Joined(rules_in(one) + rules_in(other))


def rules_in(rule):
    """The rules that a rule is joined of, itself alone if it is not."""
    if isinstance(rule, Joined):
        return rule.rules
    return (rule,)


def take_part(words):
    """The word of a rule, and the lists behind it, if it has any."""
    word = words.take_one(WORDS)
    lists = {}
    use = ""
    while word == "listed" and words.word_now() == ";":
        words.take_one((";",))
        use = words.take_name("", use)
        lists[use] = []
        while is_name(words.word_now()):
            lists[use].append(words.take_name())
    return (word, lists)


def rule_of(word, lists):
    """The rule that a word and perhaps lists tell."""
    if word == "narrowest":
        return Narrowest()
    if word == "dearest":
        return Dearest()
    if word == "soonest":
        return Soonest()
    return Listed(lists)


def check_lists(lists):
    """Raises what a Listed raises for its argument."""
    if not isinstance(lists, dict) or not all([is_row(row) for row in lists.values()]):
        raise BadRule("lists")
    check_names(list(lists))
    for row in lists.values():
        check_names(row)
    if not all([len(set(row)) == len(row) for row in lists.values()]):
        raise BadRule("twice")


def check_taken(told, left, offers, servers):
    """Raises BadRule("taken") for what cannot be taken, source by source; the cause tells why."""
    if not isinstance(told, dict):
        raise BadRule("taken") from BadRule("dict")
    for source, amount in told.items():
        if source not in offers:
            raise BadRule("taken") from NoName(source)
        if not is_amount(amount):
            raise BadRule("taken") from BadAmount(amount)
        if amount > left[source] or (amount > 0 and source not in servers):
            raise BadRule("taken") from Lacking(source)


def rank_by_end(offers, source):
    """The rank of a source by its last day; those without one come last."""
    end = offers.end(source)
    if end is None:
        return (1, 0)
    return (0, end)


def rank_by_width(offers, source, use):
    """The rank of a source by the number of uses in its scope, by its last day, by its worth at a use, falling."""
    return (len(offers.table.scope(source)), *rank_by_end(offers, source), -offers.table[source, use])


def ranked(ranks):
    """The names of a dict by their ranks, which are tuples of integers; of equal ones the first one first."""
    row = []
    for name in ranks:
        row.insert(len([other for other in row if ranks[other] <= ranks[name]]), name)
    return tuple(row)


class Served:
    """What a rule took for each coming, what is left, and what was earned."""

    def __init__(self, taken, left, earned):
        self.taken = taken
        self.left = left
        self.earned = earned

    def __eq__(self, other):
        return (isinstance(other, Served) and self.taken == other.taken and self.left == other.left
                and self.earned == other.earned)


def check_rule(rule):
    """Raises BadRule("rule") for what is no Rule."""
    if not isinstance(rule, Rule):
        raise BadRule("rule")


def check_future(offers, sources, comings):
    """Raises BadOffer("offers") for what is no Offers, BadSide("sources") for what is no Side, then as for comings."""
    if not isinstance(offers, Offers):
        raise BadOffer("offers")
    if not isinstance(sources, Side):
        raise BadSide("sources")
    check_comings(comings)


def taken_for(rule, offers, left, comings, at):
    """What a rule takes for the coming with an index; it is not called for an amount 0."""
    coming = comings[at]
    if coming.amount == 0:
        return {}
    try:
        return rule(coming.use, coming.amount, coming.day, left, offers)
    except BadRule as error:
        raise BadRule(at) from error


def worth_taken(offers, coming, taken):
    """The worth of what is taken for a coming."""
    return sum([amount * offers.table[source, coming.use] for source, amount in taken.items()])


def serve(rule, offers, sources, comings):
    """What a rule takes for comings, one behind the other, what is left, and what is earned."""
    check_rule(rule)
    check_future(offers, sources, comings)
    return served_by(rule, offers, sources, tuple(comings))


def served_by(rule, offers, sources, comings):
    """What a rule takes for a tuple of comings, what is left, and what is earned."""
    rows = []
    left = sources
    for at in range(len(comings)):
        rows.append(taken_for(rule, offers, left, comings, at))
        left = left - Side.of(rows[at])
    earned = sum([worth_taken(offers, coming, row) for coming, row in zip(comings, rows)])
    return Served(tuple(rows), left, earned)


def most_earned(offers, sources, comings):
    """The most that can be earned with all comings known ahead."""
    worths = {}
    for at, coming in enumerate(comings):
        for source in offers.servers(coming.use, coming.day):
            worths[source, at] = offers.table[source, coming.use]
    amounts = best_amounts(worths, sources, [coming.amount for coming in comings], False)
    return sum([amounts[pair] * worths[pair] for pair in worths])


def hindsight(offers, sources, comings):
    """The most that could have been earned with all comings known ahead."""
    check_future(offers, sources, comings)
    return most_earned(offers, sources, comings)


def first_loss(rule, offers, sources, comings):
    """The index of the first coming behind which a rule has earned less than hindsight tells, None if there is none."""
    check_rule(rule)
    check_future(offers, sources, comings)
    # A tuple of its own: what the rule calls could change the list.
    known = tuple(comings)
    served = served_by(rule, offers, sources, known)
    earned = 0
    for at, coming in enumerate(known):
        earned += worth_taken(offers, coming, served.taken[at])
        if earned < most_earned(offers, sources, known[:at + 1]):
            return at
    return None
