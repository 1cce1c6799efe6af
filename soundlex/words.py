"""The calls on a lexicon, handed in and answered as one list of whole numbers."""

from soundlex.lexicon import Lexicon
from soundlex.rules import Word

BEGIN = 1
READ = 2
WRITE = 3
COUNT = 4
PUT = 5
DROP = 6
GET = 7
NUMBER = 8
FIND = 9
BEGINS = 10
GOES = 11
LIKELY = 12


class UnknownCall(ValueError):
    """A call's number is none of those above."""


class Given:
    """A list of numbers, taken from its front on; the list itself stays as it is."""

    def __init__(self, numbers):
        self.numbers = numbers
        self.place = 0

    def has_more(self):
        """Whether a number is left."""
        return self.place < len(self.numbers)

    def take_number(self):
        """The number that stands in front."""
        number = self.numbers[self.place]
        self.place += 1
        return number

    def take_row(self):
        """The row in front, which has its length before it."""
        length = self.take_number()
        start = self.place
        self.place += length
        return self.numbers[start:self.place]


def take_word(given):
    """The word that put has as its arguments."""
    left = given.take_number()
    right = given.take_number()
    cost = given.take_number()
    reading = given.take_row()
    text = given.take_row()
    return Word(reading, text, left, right, cost)


def number_answer(given, lexicon):
    """What number answers to its arguments, which stand in front."""
    reading = given.take_row()
    text = given.take_row()
    return lexicon.number(reading, text)


def likely_answer(given, lexicon):
    """What likely answers to its arguments, which stand in front."""
    rank = given.take_number()
    row = given.take_row()
    return lexicon.likely(rank, row)


def asked_answer(call, given, lexicon):
    """What a call that only asks answers to its arguments, which stand in front."""
    if call == GET:
        return lexicon.get(given.take_number())
    if call == NUMBER:
        return number_answer(given, lexicon)
    if call == FIND:
        return lexicon.find(given.take_row())
    if call == BEGINS:
        return lexicon.begins(given.take_row())
    if call == GOES:
        return lexicon.goes(given.take_row())
    if call == LIKELY:
        return likely_answer(given, lexicon)
    raise UnknownCall(f"no call has the number {call}")


def answer_of(given, lexicon):
    """What the call in front answers, as a list of numbers."""
    call = given.take_number()
    if call == BEGIN:
        return lexicon.begin()
    if call == READ:
        return lexicon.read(given.take_row())
    if call == WRITE:
        return lexicon.write()
    if call == COUNT:
        return lexicon.count()
    if call == PUT:
        return lexicon.put(take_word(given))
    if call == DROP:
        return lexicon.drop(given.take_number())
    return asked_answer(call, given, lexicon)


def answers(calls):
    """What calls on one new lexicon answer: for each how many numbers, then these."""
    given = Given(calls)
    lexicon = Lexicon()
    told = []
    while given.has_more():
        answer = answer_of(given, lexicon)
        told.append(len(answer))
        told.extend(answer)
    return told
