"""Texts parted into words, and the reading of these from the left."""

from lawsleft.errors import BadText, TooDeep
from lawsleft.grounds import LETTERS_AND_FIGURES, RESERVED, is_name

MOST_SIGNS = 20000
LEAST_CODE = 32
GREATEST_CODE = 126
BARRED_CODE = 37
FIGURES = "0123456789"
MOST_FIGURES = 6
MOST_BRACKETS = 12
BECOMES = ":="
SIGNS = ("=", "<", "+", "-", "*", "(", ")", "[", "]", "{", "}", ";", ",", ":", "~")
NAME = "name"
NUMBER = "number"
MARK = "mark"
END = "end"
NOTHING = "nothing"


def ask_text(thing):
    """Raise BadText if thing is no text, or for its first sign that no text has."""
    if not isinstance(thing, str):
        raise BadText(-1)
    for index, sign in enumerate(thing):
        if index == MOST_SIGNS or not stands_in_texts(sign):
            raise BadText(index)


def stands_in_texts(sign):
    """Whether a sign can stand in a text."""
    return LEAST_CODE <= ord(sign) <= GREATEST_CODE and ord(sign) != BARRED_CODE


def words_of(text):
    """Return the words of a text as triples (sort, word, place), behind them one for its end."""
    found = []
    at = 0
    while at < len(text):
        end = end_of_word(text, at)
        if text[at] != " ":
            found.append((sort_of(text[at:end]), text[at:end], at))
        at = end
    return found + [(END, "", at)]


def end_of_word(text, at):
    """Return the index behind the word, or the blank, that stands there."""
    end = at
    while end < len(text) and text[end] in LETTERS_AND_FIGURES:
        end += 1
    if end > at:
        return end
    return at + 2 if text[at:at + 2] == BECOMES else at + 1


def sort_of(word):
    """Return the sort of a word; one of no sort cannot stand anywhere."""
    if word in RESERVED or word in SIGNS or word == BECOMES:
        return MARK
    if is_name(word):
        return NAME
    return NUMBER if is_figure_word(word) else NOTHING


def is_figure_word(word):
    """Whether a word is a number as texts have it."""
    if len(word) > MOST_FIGURES or (word[0] == "0" and len(word) > 1):
        return False
    return all([sign in FIGURES for sign in word])


class Reading:
    """The reading of a text, word by word from the left."""

    def __init__(self, text):
        ask_text(text)
        self.parted = words_of(text)
        self.at = 0
        self.brackets = 0

    def place(self):
        """Return the place of the word that comes next, the length of the text if none does."""
        return self.parted[self.at][2]

    def comes(self, marks):
        """Whether one of these marks comes next."""
        sort, word, _ = self.parted[self.at]
        return sort == MARK and word in marks

    def comes_one_of(self, sort):
        """Whether a word of this sort comes next."""
        return self.parted[self.at][0] == sort

    def take(self):
        """Return the word that comes next, and its place, and go on behind it."""
        _, word, place = self.parted[self.at]
        self.at += 1
        return word, place

    def take_mark(self, marks):
        """Take one of these marks, or raise BadText if none of them comes next."""
        if not self.comes(marks):
            raise BadText(self.place())
        return self.take()

    def take_name(self):
        """Take a name, or raise BadText if none comes next."""
        if not self.comes_one_of(NAME):
            raise BadText(self.place())
        return self.take()

    def take_number(self):
        """Take a figure word, and return its number and its place, or raise BadText if none comes next."""
        if not self.comes_one_of(NUMBER):
            raise BadText(self.place())
        word, place = self.take()
        return int(word), place

    def take_bracket(self):
        """Take a bracket that opens, or raise TooDeep if too many are open already."""
        _, place = self.take()
        if self.brackets == MOST_BRACKETS:
            raise TooDeep(place)
        self.brackets += 1

    def close_bracket(self, mark):
        """Take the bracket that closes the last one that is open."""
        self.take_mark((mark,))
        self.brackets -= 1

    def finish(self):
        """Raise BadText if the text does not end here."""
        if not self.comes_one_of(END):
            raise BadText(self.place())
