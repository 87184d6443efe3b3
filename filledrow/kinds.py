"""The kinds of values that arguments are asked for: integers, names, pairs, and rows of them."""

from filledrow.errors import BadName

MOST_NAMES = 6
MOST_PAIRS = 36
LONGEST_NAME = 8
NO_NAMES = ("none", "self")


def is_integer(value, least=None):
    """Whether a value is an integer, from the least one on if there is one; a bool is none."""
    return isinstance(value, int) and not isinstance(value, bool) and (least is None or value >= least)


def is_amount(value):
    """Whether a value is an amount; worths and days are of the same kind."""
    return is_integer(value, 0)


def is_name(value):
    """Whether a value is a name."""
    if not isinstance(value, str) or len(value) > LONGEST_NAME or value in NO_NAMES:
        return False
    return value.isascii() and value.isalpha() and value.islower()


def is_pair(value):
    """Whether a value is a pair."""
    return isinstance(value, tuple) and len(value) == 2 and is_name(value[0]) and is_name(value[1])


def is_row(value):
    """Whether a value is a list or a tuple."""
    return isinstance(value, (list, tuple))


def are_unlike_pairs(value):
    """Whether a value is a list or tuple of pairs, none of them twice."""
    if not is_row(value) or not all([is_pair(item) for item in value]):
        return False
    return len(set(value)) == len(value)


def check_names(values):
    """Raises BadName with the first value that is no name."""
    for value in values:
        if not is_name(value):
            raise BadName(value)


def ascending(values):
    """The names, the pairs or the bars of a list or tuple as an ascending tuple.

    They are compared by their texts, which gives the same order: names have letters only, the quotes
    and brackets around them stand ahead of all letters, and None stands behind an opening bracket.
    """
    return tuple(sorted(values, key=str))
