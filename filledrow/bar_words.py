"""How the words of a text tell pairs and bars about them."""

from filledrow.kinds import MOST_PAIRS, is_name

NO_PAIR = "none"
GREATEST_NAME = "zzzzzzzz"


def pairs_text(pairs):
    """The names of some pairs, and what stands for None."""
    return " ".join([NO_PAIR if pair is None else f"{pair[0]} {pair[1]}" for pair in pairs])


def take_pairs(words):
    """The pairs of a lot of bars, ascending."""
    if words.take_dash():
        return []
    pairs = [words.take_pair()]
    while is_name(words.word_now()) and len(pairs) < MOST_PAIRS:
        pairs.append(take_next_pair(words, pairs[-1]))
    return pairs


def take_next_pair(words, last):
    """The next pair, greater than the last one; its source can stand only if a use can follow."""
    if last[1] == GREATEST_NAME:
        return (words.take_name("", last[0]), words.take_name())
    return words.take_pair(last)


def take_bars(words, pairs):
    """The bars about some pairs, in the form in which they are kept, ascending."""
    bars = []
    last = (-1, -1, -1)
    while not words.at_end():
        words.take_one((";",))
        last = take_ranks(words, pairs, last)
        bars.append(tuple([[*pairs, None][rank] for rank in last]))
    return bars


def take_ranks(words, pairs, last):
    """The next bar, as the ranks of its pairs, greater than the last one; None ranks behind all pairs.

    A pair can stand if some greater bar goes on with it: the greatest one has None from there on.
    """
    none = len(pairs)
    own = take_rank(words, pairs, [k for k in range(none) if (k, none, none) > last])
    ahead = [k for k in range(none + 1) if k != own and (own, k, none) > last]
    first = take_rank(words, pairs, ahead)
    if first == none:
        return (own, none, take_rank(words, pairs, [none]))
    then = [k for k in range(first + 1, none + 1) if k != own and (own, first, k) > last]
    return (own, first, take_rank(words, pairs, then))


def take_rank(words, pairs, ranks):
    """The rank of the next pair, which is one of several, or of None."""
    if len(pairs) in ranks and words.word_now() == NO_PAIR:
        words.take_one((NO_PAIR,))
        return len(pairs)
    choices = [pairs[k] for k in ranks if k < len(pairs)]
    source = words.take_one([pair[0] for pair in choices])
    use = words.take_one([pair[1] for pair in choices if pair[0] == source])
    return pairs.index((source, use))
