"""The desk: lines that change a table, two sides and an order, and ask about them."""

from filledrow.alike import alike
from filledrow.bar_words import pairs_text
from filledrow.bars import Bars
from filledrow.best import best_worth, shortfall
from filledrow.errors import BadLine, BadText
from filledrow.nested import Crossing, TwoWorths, nested
from filledrow.offers import Offers
from filledrow.orders import Order
from filledrow.peels import find_order
from filledrow.ranges import worth_range
from filledrow.sides import Side
from filledrow.tables import Table
from filledrow.words import Words, number_text

CHANGES = ("table", "sources", "uses", "order")
PLAIN = ("undo", "show", "fill", "best", "judge", "find", "nested")


class Desk:
    """A table, two sides and an order, which lines change and ask."""

    def __init__(self):
        self.table = Table({})
        self.sources = Side()
        self.uses = Side()
        self.order = Order()
        self._befores = ()

    def __len__(self):
        return len(self._befores)

    def __call__(self, line):
        return self.ask(line)

    def ask(self, line):
        """Carries out a line, and returns its answer."""
        if not isinstance(line, str):
            raise BadLine(0)
        words = line.split(" ")
        word = words[0]
        rest = line[len(word) + 1:]
        if word in CHANGES:
            return self.change(word, told_by(word, rest))
        if word == "range":
            return range_answer(worth_range(self.table, self.order, told_by(word, rest)))
        if word == "alike":
            return "yes" if alike(self.order, told_by("order", rest)) is None else "no"
        if word not in PLAIN:
            raise BadLine(0)
        if len(words) > 1:
            raise BadLine(1)
        if word == "undo":
            return self.take_back()
        return answer_of(self, word)

    def run(self, *lines):
        """The answers to some lines; all of them are carried out, or none."""
        table, sources, uses, order, befores = self.table, self.sources, self.uses, self.order, self._befores
        answers = None
        try:
            answers = [self.ask(line) for line in lines]
        finally:
            if answers is None:
                self.table, self.sources, self.uses, self.order = table, sources, uses, order
                self._befores = befores
        return answers

    def change(self, word, value):
        """Another table, another side or another order."""
        self._befores = self._befores + ((self.table, self.sources, self.uses, self.order),)
        if word == "table":
            self.table = value
        elif word == "sources":
            self.sources = value
        elif word == "uses":
            self.uses = value
        else:
            self.order = value
        return "ok"

    def take_back(self):
        """Takes back the last line that changed something and is not taken back."""
        if not self._befores:
            return "nothing"
        self.table, self.sources, self.uses, self.order = self._befores[-1]
        self._befores = self._befores[:-1]
        return "ok"


def told_by(word, text):
    """What the text behind the first word of a line tells."""
    try:
        return read_told(word, text)
    except BadText as error:
        raise BadLine(error.word + 1) from None


def read_told(word, text):
    """What a text tells: a table, a side, an order, or a pair."""
    if word == "table":
        return Table.read(text)
    if word == "order":
        return Order.read(text)
    if word == "range":
        words = Words(text)
        pair = words.take_pair()
        words.take_end()
        return pair
    return Side.read(text)


def answer_of(desk, word):
    """The answer to a question that is one word."""
    if word == "show":
        return " | ".join([str(desk.table), str(desk.sources), str(desk.uses), str(desk.order)])
    if word == "fill":
        return fill_answer(desk.table, desk.order(desk.sources, desk.uses))
    if word == "best":
        most = best_worth(desk.table, desk.sources, desk.uses)
        lacking = shortfall(desk.order, desk.table, desk.sources, desk.uses)
        return f"{number_text(most)} - {number_text(lacking)}"
    if word == "judge":
        return judge_answer(Bars.best(desk.table, desk.order.pairs).first_broken(desk.order))
    if word == "find":
        return find_answer(find_order(Bars.best(desk.table)))
    return nested_answer(nested(Offers(desk.table)))


def fill_answer(table, filling):
    """A filling and its worth."""
    return f"{filling} = {number_text(filling.worth_in(table))}"


def judge_answer(broken):
    """The first broken bar, if there is one."""
    if broken is None:
        return "best"
    return pairs_text(broken)


def find_answer(found):
    """The least best order, or the pairs of the greatest stuck set."""
    if found:
        return str(found.order)
    return " ; ".join(["stuck", *[pairs_text([pair]) for pair, _ in found.held]])


def nested_answer(told):
    """Whether offers are nested, or the reason why they are not."""
    if told:
        return "nested"
    if isinstance(told, TwoWorths):
        return "two worths"
    if isinstance(told, Crossing):
        return "crossing"
    return "dearer"


def range_answer(ends):
    """The low and the high end of a range."""
    if ends is None:
        return "never"
    if ends[1] is None:
        return f"{number_text(ends[0])} to on"
    return f"{number_text(ends[0])} to {number_text(ends[1])}"
