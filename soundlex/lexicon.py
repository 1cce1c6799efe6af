"""A lexicon: words, each once, in their one order; and what is asked of it."""

from soundlex.asked import count_before, count_of_reading, lengths_beginning, numbers_by_likelihood, numbers_going_on
from soundlex.lines import NO_FAULT, fault_kind, lines_of, text_of, word_in
from soundlex.rules import MOST_WORDS, all_characters, is_same, is_word, order_of

MOST_BYTES = 65536
MOST_ASKED = 64

NO_REFUSAL = 0
TOO_LONG = -1
FAULTY = -2
NO_CHARACTER = -3
NO_WORD = -3
NO_SUCH_NUMBER = -4
NONE_FOUND = -5
FULL = -6


def row_refusal(rows):
    """The number by which a call with these rows is refused, NO_REFUSAL if it isn't."""
    # All lengths before any character: a row that is too long is refused unseen.
    if any([len(row) > MOST_ASKED for row in rows]):
        return TOO_LONG
    if not all([all_characters(row) for row in rows]):
        return NO_CHARACTER
    return NO_REFUSAL


class Lexicon:
    """A lexicon; each call answers a list of numbers, a refusal's number or a result's first."""

    def __init__(self):
        self.words = []
        self.written = None

    def keep(self, words):
        """Takes words, which are in order, in the place of those that were here."""
        self.words = words
        # Kept until the words change, since one lexicon may be written hundreds of times.
        self.written = None

    def begin(self):
        """Call 1: no words."""
        self.keep([])
        return [0]

    def read(self, data):
        """Call 2: the words of a text in the place of those that were here."""
        if len(data) > MOST_BYTES:
            return [TOO_LONG]
        words = []
        for at, line in enumerate(lines_of(data)):
            word = word_in(line)
            kind = fault_kind(word, words)
            if kind != NO_FAULT:
                return [FAULTY, at, kind]
            words.append(word)
        self.keep(sorted(words, key=order_of))
        return [len(words)]

    def write(self):
        """Call 3: the lexicon's text."""
        if self.written is None:
            self.written = text_of(self.words)
        return [len(self.written)] + self.written

    def count(self):
        """Call 4: how many words."""
        return [len(self.words)]

    def put(self, word):
        """Call 5: a word comes in, maybe in the place of one with its reading and text."""
        if not is_word(word):
            return [NO_WORD]
        others = [other for other in self.words if not is_same(other, word)]
        if len(others) >= MOST_WORDS:
            return [FULL]
        before = [other for other in others if order_of(other) < order_of(word)]
        place = len(before)
        self.keep(before + [word] + others[place:])
        return [place]

    def drop(self, number):
        """Call 6: the word of this number goes out."""
        if number >= len(self.words):
            return [NO_SUCH_NUMBER]
        self.keep(self.words[:number] + self.words[number + 1:])
        return [0]

    def get(self, number):
        """Call 7: the word of this number, part by part."""
        if number >= len(self.words):
            return [NO_SUCH_NUMBER]
        word = self.words[number]
        reading = [len(word.reading)] + word.reading
        text = [len(word.text)] + word.text
        return [0, word.left, word.right, word.cost] + reading + text

    def number(self, reading, text):
        """Call 8: the number of the word with this reading and text."""
        refusal = row_refusal([reading, text])
        if refusal != NO_REFUSAL:
            return [refusal]
        for number, word in enumerate(self.words):
            if word.reading == reading and word.text == text:
                return [number]
        return [NONE_FOUND]

    def find(self, row):
        """Call 9: how many words have this reading, and the first one's number."""
        refusal = row_refusal([row])
        if refusal != NO_REFUSAL:
            return [refusal]
        return [count_of_reading(self.words, row), count_before(self.words, row)]

    def begins(self, row):
        """Call 10: how many lengths the words have that begin here, and each length's words."""
        refusal = row_refusal([row])
        if refusal != NO_REFUSAL:
            return [refusal]
        lengths = lengths_beginning(self.words, row)
        answer = [len(lengths)]
        for told in lengths:
            answer.extend(told)
        return answer

    def goes(self, row):
        """Call 11: how many words go on from here, and the first one's number."""
        refusal = row_refusal([row])
        if refusal != NO_REFUSAL:
            return [refusal]
        return [len(numbers_going_on(self.words, row)), count_before(self.words, row)]

    def likely(self, rank, row):
        """Call 12: the number of the word of this rank, 0 the likeliest, among those that go on from here."""
        refusal = row_refusal([row])
        if refusal != NO_REFUSAL:
            return [refusal]
        numbers = numbers_by_likelihood(self.words, row)
        if rank >= len(numbers):
            return [NONE_FOUND]
        return [numbers[rank]]
