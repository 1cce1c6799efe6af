"""A lexicon: words, each once, in their one order; and what is asked of it."""

from soundlex.lines import NO_FAULT, fault_kind, lines_of, text_of, word_in
from soundlex.rules import MOST_WORDS, is_same, is_word, order_of

MOST_BYTES = 65536

TOO_LONG = -1
FAULTY = -2
NO_WORD = -3
NO_SUCH_NUMBER = -4
FULL = -6


class Lexicon:
    """A lexicon; each call answers a list of numbers, a refusal's number or a result's first."""

    def __init__(self):
        self.words = []
        self.written = None

    def keep(self, words):
        """Takes words, which are in order, in the place of those that were here."""
        self.words = words
        # Kept until the words change, since one lexicon may be written hundreds of times.
        self.written = None

    def begin(self):
        """Call 1: no words."""
        self.keep([])
        return [0]

    def read(self, data):
        """Call 2: the words of a text in the place of those that were here."""
        if len(data) > MOST_BYTES:
            return [TOO_LONG]
        words = []
        for at, line in enumerate(lines_of(data)):
            word = word_in(line)
            kind = fault_kind(word, words)
            if kind != NO_FAULT:
                return [FAULTY, at, kind]
            words.append(word)
        self.keep(sorted(words, key=order_of))
        return [len(words)]

    def write(self):
        """Call 3: the lexicon's text."""
        if self.written is None:
            self.written = text_of(self.words)
        return [len(self.written)] + self.written

    def count(self):
        """Call 4: how many words."""
        return [len(self.words)]

    def put(self, word):
        """Call 5: a word comes in, maybe in the place of one with its reading and text."""
        if not is_word(word):
            return [NO_WORD]
        others = [other for other in self.words if not is_same(other, word)]
        if len(others) >= MOST_WORDS:
            return [FULL]
        before = [other for other in others if order_of(other) < order_of(word)]
        place = len(before)
        self.keep(before + [word] + others[place:])
        return [place]

    def drop(self, number):
        """Call 6: the word of this number goes out."""
        if number >= len(self.words):
            return [NO_SUCH_NUMBER]
        self.keep(self.words[:number] + self.words[number + 1:])
        return [0]
