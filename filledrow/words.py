"""The words of a text, read one behind the other, and whole numbers as they stand in texts."""

from filledrow.errors import BadText
from filledrow.kinds import is_name

CHUNK = 64
STROKE = "|"


def number_text(number):
    """An integer from 0 on as `str` writes it, of any length.

    It is written in chunks, as Python refuses to write integers of many thousand digits at once.
    """
    parts = []
    while number >= 10 ** 64:
        number, rest = divmod(number, 10 ** 64)
        parts.append(str(rest).zfill(CHUNK))
    return "".join([str(number), *parts[::-1]])


def number_of(word):
    """The integer that a word of digits tells, of any length."""
    number = 0
    head = len(word) % CHUNK
    if head > 0:
        number = int(word[:head])
    for at in range(head, len(word), CHUNK):
        number = number * 10 ** 64 + int(word[at:at + CHUNK])
    return number


def is_number_text(word):
    """Whether a word is an integer from 0 on, as `str` writes it."""
    return word.isascii() and word.isdigit() and (word == "0" or word[0] != "0")


class Words:
    """The words of a text. What cannot stand, or is missing, is told by BadText with its index."""

    def __init__(self, text):
        if not isinstance(text, str):
            raise BadText(0, 0)
        self.words = text.split(" ")
        self.at = 0

    def at_end(self):
        """Whether no word is left."""
        return self.at == len(self.words)

    def word_now(self):
        """The next word, which stays; None behind the last one."""
        if self.at_end():
            return None
        return self.words[self.at]

    def take_one(self, choices):
        """The next word, which is one of several."""
        word = self.word_now()
        if word not in choices:
            raise BadText(0, self.at)
        self.at += 1
        return word

    def take_dash(self):
        """Whether the next word is a dash, which stands for nothing at all; it is taken then."""
        if self.word_now() != "-":
            return False
        self.at += 1
        return True

    def take_name(self, least="", behind=""):
        """The next word, a name that is not ahead of least, and greater than behind."""
        word = self.word_now()
        if not is_name(word) or word < least or word <= behind:
            raise BadText(0, self.at)
        self.at += 1
        return word

    def take_pair(self, behind=("", "")):
        """The next two words, a pair that is greater than behind."""
        source = self.take_name(behind[0])
        if source == behind[0]:
            return (source, self.take_name("", behind[1]))
        return (source, self.take_name())

    def take_number(self, least):
        """The next word, an integer from the least one on."""
        word = self.word_now()
        if word is None or not is_number_text(word) or number_of(word) < least:
            raise BadText(0, self.at)
        self.at += 1
        return number_of(word)

    def take_numbers(self, least, sign=None):
        """Names, ascending, at least one, each with an integer from the least one on.

        They end with the text, or ahead of a sign if one is told.
        """
        numbers = {}
        name = ""
        while name == "" or self.word_now() not in (None, sign):
            name = self.take_name("", name)
            numbers[name] = self.take_number(least)
        return numbers

    def take_end(self):
        """Nothing: no word may be left."""
        if not self.at_end():
            raise BadText(0, self.at)
