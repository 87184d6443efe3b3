"""Sides: amounts of sources, or of uses."""

from filledrow.errors import BadAmount, BadSide, Lacking
from filledrow.kinds import check_names, is_amount, is_integer, is_name
from filledrow.words import Words, number_text


def check_amounts(values):
    """Raises BadAmount with the first value that is no amount."""
    for value in values:
        if not is_amount(value):
            raise BadAmount(value)


def check_other(other):
    """Raises BadSide("other") for what is no Side."""
    if not isinstance(other, Side):
        raise BadSide("other")


class Side:
    """Amounts of names; 0 is as if not told."""

    # `self` is a keyword that must be told as a bad name, so the object itself goes by a name that is no name here.
    def __init__(side_itself, **amounts):
        keywords = sorted([str(name) for name in amounts])
        check_names(keywords)
        check_amounts([amounts[name] for name in keywords])
        side_itself.names = tuple([name for name in keywords if amounts[name] > 0])
        side_itself.total = sum([amounts[name] for name in keywords])
        side_itself._amounts = {name: amounts[name] for name in side_itself.names}
        side_itself._rows = tuple([(name, amounts[name]) for name in side_itself.names])

    @classmethod
    def of(cls, amounts):
        """The Side of a dict."""
        if not isinstance(amounts, dict):
            raise BadSide("amounts")
        check_names(list(amounts))
        check_amounts(list(amounts.values()))
        # By its own name: the signs come here, and nothing that is passed may be called behind a sign.
        return Side(**amounts)

    def __len__(self):
        return len(self.names)

    def __iter__(self):
        return iter(self._rows)

    def __contains__(self, x):
        return x in self.names

    def __getitem__(self, at):
        if not is_name(at):
            return 0
        return self._amounts.get(at, 0)

    def __add__(self, other):
        check_other(other)
        return Side.of({name: self[name] + other[name] for name in self.names + other.names})

    def __sub__(self, other):
        check_other(other)
        for name in other.names:
            if self[name] < other[name]:
                raise Lacking(name)
        return Side.of({name: self[name] - other[name] for name in self.names})

    def __and__(self, other):
        check_other(other)
        return Side.of({name: min(int(self[name]), int(other[name])) for name in self.names})

    def __or__(self, other):
        check_other(other)
        return Side.of({name: max(int(self[name]), int(other[name])) for name in self.names + other.names})

    def __mul__(self, other):
        if not is_amount(other):
            raise BadAmount(other)
        return Side.of({name: self[name] * other for name in self.names})

    def __rmul__(self, other):
        return self * other

    def __floordiv__(self, other):
        if not is_integer(other, 1):
            raise BadAmount(other)
        return Side.of({name: self[name] // other for name in self.names})

    def __mod__(self, other):
        if not is_integer(other, 1):
            raise BadAmount(other)
        return Side.of({name: self[name] % other for name in self.names})

    def __le__(self, other):
        check_other(other)
        return all([self[name] <= other[name] for name in self.names])

    def __lt__(self, other):
        return self <= other and not self == other

    def __eq__(self, other):
        return isinstance(other, Side) and self._rows == other._rows

    def with_amount(self, name, amount):
        """The Side with another amount of a name."""
        check_names([name])
        check_amounts([amount])
        return Side.of({**self._amounts, name: amount})

    def __str__(self):
        if not self.names:
            return "-"
        return " ".join([f"{name} {number_text(amount)}" for name, amount in self._rows])

    @classmethod
    def read(cls, text):
        """The Side with this text."""
        words = Words(text)
        amounts = take_amounts(words)
        words.take_end()
        return cls.of(amounts)


def take_amounts(words, sign=None):
    """The amounts of a side. They end with the text, or ahead of a sign if one is told."""
    if words.take_dash():
        return {}
    return words.take_numbers(1, sign)
