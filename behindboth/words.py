"""Texts and the words that they fall into."""

from behindboth.data import WORTH_LIMIT
from behindboth.errors import BadText, NoName, Twice

MOST_SIGNS = 20000
MOST_NAME_SIGNS = 12
MOST_FIGURES = 6
LETTERS = "abcdefghijklmnopqrstuvwxyz"
FIGURES = "0123456789"
NO_NAMES = ("with", "without", "where")


class Reader:
    """Reads the words of a text from the left; BadText where a word cannot stand."""

    def __init__(self, text):
        need_text(text)
        # Behind all words stands an empty one, at the end of the text.
        self._words = _words_of(text)
        self._at = 0

    def word(self):
        """The next word, empty at the end of the text."""
        return self._words[self._at][0]

    def place(self):
        """The place of the next word, or the length of the text."""
        return self._words[self._at][1]

    def passes(self, word):
        """Whether the next word is this one; if so, it is read."""
        if self.word() != word:
            return False
        self._step()
        return True

    def need(self, word):
        """Reads this word."""
        if not self.passes(word):
            raise BadText(self.place())

    def one_of(self, words):
        """Reads one of some words, and returns it."""
        if self.word() not in words:
            raise BadText(self.place())
        return self._step()

    def more(self, sign, many, most):
        """Whether a further part stands behind a sign, where so many stand ahead, and at most so many can stand."""
        if not self.passes(sign):
            return False
        if many == most:
            raise BadText(self.place())
        return True

    def has_name(self):
        """Whether the next word is a name."""
        return name_form(self.word())

    def name(self):
        """Reads a name."""
        if not self.has_name():
            raise BadText(self.place())
        return self._step()

    def named(self, names):
        """Reads one of some names; its index there."""
        place = self.place()
        name = self.name()
        if name not in names:
            raise NoName(place)
        return names.index(name)

    def unlike(self, names, ahead):
        """As named, of a name that does not stand ahead; its index is put to those that do."""
        place = self.place()
        index = self.named(names)
        if index in ahead:
            raise Twice(place)
        ahead.append(index)
        return index

    def several(self, names, least):
        """Reads unlike names, as many as there are, so many at least; their indexes."""
        found = []
        while len(found) < least or self.has_name():
            self.unlike(names, found)
        return found

    def figures(self, limit=WORTH_LIMIT):
        """Reads a figure word that tells a number below a limit."""
        if not _figures_form(self.word()) or int(self.word()) >= limit:
            raise BadText(self.place())
        return int(self._step())

    def worths(self, many):
        """Reads so many figure words."""
        return tuple([self.figures() for _ in range(many)])

    def end(self):
        """Refuses what stands behind all words."""
        if self.word():
            raise BadText(self.place())

    def _step(self):
        """Goes to the word behind the next one, and returns that which was the next one."""
        word = self.word()
        self._at += 1
        return word


def need_text(thing):
    """BadText unless a thing is a text that can be read, whatever words it has."""
    if not isinstance(thing, str):
        raise BadText(-1)
    for index, sign in enumerate(thing):
        if index == MOST_SIGNS or not " " <= sign <= "~":
            raise BadText(index)


def name_form(thing):
    """Whether a thing is a name."""
    if not isinstance(thing, str) or not 1 <= len(thing) <= MOST_NAME_SIGNS or thing in NO_NAMES:
        return False
    return thing[0] in LETTERS and all(sign in LETTERS or sign in FIGURES for sign in thing)


def text_of(words):
    """The text of some words."""
    parts = []
    last = ""
    for word in words:
        if last not in ("", "(") and word not in (")", ",", ":", ";"):
            parts.append(" ")
        parts.append(word)
        last = word
    return "".join(parts)


def parted(groups, sign):
    """The words of several parts, with a sign between them."""
    words = []
    for at, group in enumerate(groups):
        if at > 0:
            words.append(sign)
        words.extend(group)
    return words


def _figures_form(word):
    """Whether a word is a figure word."""
    if not 1 <= len(word) <= MOST_FIGURES or not all(sign in FIGURES for sign in word):
        return False
    return word == "0" or word[0] != "0"


def _words_of(text):
    """The words of a text with their places, behind them an empty one at its end."""
    words = []
    at = 0
    while at < len(text):
        end = at + 1
        if text[at].isalnum():
            while end < len(text) and text[end].isalnum():
                end += 1
        if text[at] != " ":
            words.append((text[at:end], at))
        at = end
    words.append(("", len(text)))
    return words
