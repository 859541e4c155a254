"""Texts that are read word by word."""

from stopdesk.errors import BadText
from stopdesk.words import joins_parts, kinds_behind

MOST_FIGURES = 5


class Row:
    """The words of a text, passed one behind the other."""

    def __init__(self, text):
        self.words = text.split(" ")
        self.at = 0

    def next_word(self):
        """The word that is next."""
        if self.at == len(self.words):
            self.refuse()
        return self.words[self.at]

    def pass_word(self):
        """Leaves the next word behind."""
        self.at += 1

    def refuse(self):
        """Refuses the next word, or that there is none."""
        raise BadText(self.at)

    def take_word(self, words):
        """Passes a word, which must be one of these."""
        word = self.next_word()
        if word not in words:
            self.refuse()
        self.pass_word()
        return word

    def take_number(self):
        """Passes a number."""
        number = _number_of(self.next_word())
        if number is None:
            self.refuse()
        self.pass_word()
        return number

    def take_numbers(self):
        """Passes how many numbers there are, and these."""
        many = self.take_number()
        return tuple([self.take_number() for _ in range(many)])

    def check_end(self):
        """Refuses a word behind the last."""
        if self.at < len(self.words):
            self.refuse()


class BodyReader:
    """Reads a body from a row, as deep as it is: a text may hold more than a program may, and is read all the same."""

    def __init__(self, row):
        self.row = row
        # What was read: words, numbers and things, those of what is not whole yet one behind the other.
        self.made = []
        # (kind, number) of what must come, the next one last; the number counts where one is needed.
        self.coming = [("body", 0)]

    def read_body(self):
        """The body's deeds, with its end passed."""
        while self.coming:
            kind, number = self.coming.pop()
            if kind == "whole":
                # All that was read from there on stands in one thing.
                self.made[number:] = [tuple(self.made[number:])]
            elif kind == "body":
                self._begin([("deeds", 0)])
            elif kind == "deeds":
                self._read_deed()
            elif kind == "parts":
                self._begin([("more parts", self.row.take_number())])
            elif kind == "more parts":
                self._read_more_parts(number)
            elif kind == "part":
                self._read_part()
            else:
                self.made.append(self.row.take_number())
        return self.made[0]

    def _begin(self, coming):
        """Begins a thing, in which this must come."""
        self.coming.append(("whole", len(self.made)))
        self.coming.extend(coming)

    def _begin_word(self, word, is_deed):
        """Begins a deed or a part with its word."""
        self._begin([(kind, 0) for kind in reversed(kinds_behind(word, is_deed))])
        self.made.append(word)

    def _read_deed(self):
        """Reads on from a deed's word, or passes the end of the deeds."""
        word = self.row.next_word()
        if word != "end":
            if kinds_behind(word, True) is None:
                self.row.refuse()
            self.coming.append(("deeds", 0))
            self._begin_word(word, True)
        self.row.pass_word()

    def _read_more_parts(self, many):
        if many > 0:
            self.coming.append(("more parts", many - 1))
            self._read_part()

    def _read_part(self):
        """Reads a part of one word, or on from the word of one that joins two."""
        word = self.row.next_word()
        part = _part_of(word)
        if part is not None:
            self.made.append(part)
        elif joins_parts(word):
            self._begin_word(word, False)
        else:
            self.row.refuse()
        self.row.pass_word()


def _part_of(word):
    """The part that one word is, or None."""
    kind, figures = "num", word
    if word.startswith("n"):
        kind, figures = "name", word[1:]
    elif word.startswith("c"):
        kind, figures = "cell", word[1:]
    number = _number_of(figures)
    return None if number is None else (kind, number)


def _number_of(word):
    """The number that a word is, or None."""
    if len(word) > MOST_FIGURES or not word.isascii() or not word.isdigit():
        return None
    if word[0] == "0" and word != "0":
        return None
    return int(word)
