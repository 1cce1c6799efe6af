"""What the tests share: calls as lists of numbers, answers parted, and a plain lexicon to compare with."""

import re

from soundlex.words import answers

BEGIN, WRITE, COUNT = [1], [3], [4]


def row(text):
    """A row of characters, from a str or from numbers."""
    return [ord(sign) for sign in text] if isinstance(text, str) else list(text)


def octets(text):
    return list(text.encode("utf-8")) if isinstance(text, str) else list(text)


def counted(text):
    return [len(row(text))] + row(text)


def read(text):
    data = octets(text)
    return [2, len(data)] + data


def put(reading, text, left=0, right=0, cost=0):
    return [5, left, right, cost] + counted(reading) + counted(text)


def drop(number):
    return [6, number]


def get(number):
    return [7, number]


def number_of(reading, text):
    return [8] + counted(reading) + counted(text)


def find(asked):
    return [9] + counted(asked)


def begins(asked):
    return [10] + counted(asked)


def goes(asked):
    return [11] + counted(asked)


def likely(rank, asked):
    return [12, rank] + counted(asked)


def parted(numbers):
    """Rows that stand one behind another, each with its length before it, as lists of their own."""
    parts = []
    at = 0
    while at < len(numbers):
        end = at + 1 + numbers[at]
        assert at < end <= len(numbers), "a length that is none"
        parts.append(numbers[at + 1:end])
        at = end
    return parts


def run(*calls):
    """What these calls answer on one new lexicon, each call's answer a list of its own."""
    told = parted(answers([each for call in calls for each in call]))
    assert [] not in told, "an answer without a number"
    return told


def written(text):
    """What write answers where this is the lexicon's text."""
    data = octets(text)
    return [len(data)] + data


def line(reading, text="x", left=0, right=0, cost=0):
    return f"{reading} {text} {left} {right} {cost}\n"


def lexicon_text(words):
    return "".join([line(*word) for word in words])


def lines(count, start=0):
    """Lines of so many words, in order."""
    return "".join([line("w%05d" % number) for number in range(start, start + count)])


NUMBER = re.compile(r"(0|[1-9][0-9]*)\Z", re.ASCII)


def stands(text):
    return all(ord(sign) > 0x20 and ord(sign) != 0x7F for sign in text)


def plain_word(data):
    """(reading, text, left, right, cost) of a line without its 0AH, None if it is no line."""
    try:
        parts = bytes(data).decode("utf-8").split(" ")
    except UnicodeDecodeError:
        return None
    if len(parts) != 5 or "" in parts or not stands(parts[0] + parts[1]):
        return None
    if not all(NUMBER.match(part) for part in parts[2:]):
        return None
    return parts[0], parts[1], int(parts[2]), int(parts[3]), int(parts[4])


class PlainLexicon:
    """The document's sentences again, over a dict from (reading, text) to (left, right, cost)."""

    def __init__(self):
        self.entries = {}

    def order(self):
        return sorted(self.entries, key=lambda pair: (pair[0], self.entries[pair][2], pair[1]))

    def read(self, data):
        taken = {}
        pieces = bytes(data).split(b"\n")
        for at, piece in enumerate(pieces):
            last = at == len(pieces) - 1
            if last and not piece:
                break
            word = None if last else plain_word(piece)
            if word is None:
                return [-2, at, 1]
            if max(len(word[0]), len(word[1])) > 32 or max(word[2:4]) > 255 or word[4] > 65535:
                return [-2, at, 2]
            if word[:2] in taken:
                return [-2, at, 3]
            if at == 128:
                return [-2, at, 4]
            taken[word[:2]] = word[2:]
        self.entries = taken
        return [len(taken)]

    def text(self):
        rows = []
        for pair in self.order():
            rows.append(" ".join([*pair, *map(str, self.entries[pair])]) + "\n")
        return "".join(rows)

    def put(self, reading, text, left, right, cost):
        for part in (reading, text):
            if not 1 <= len(part) <= 32:
                return [-3]
            if any(n <= 0x20 or n == 0x7F or 0xD800 <= n <= 0xDFFF or n > 0x10FFFF for n in part):
                return [-3]
        if max(left, right) > 255 or cost > 65535:
            return [-3]
        pair = ("".join(map(chr, reading)), "".join(map(chr, text)))
        if pair not in self.entries and len(self.entries) == 128:
            return [-6]
        self.entries[pair] = (left, right, cost)
        return [self.order().index(pair)]

    def drop(self, number):
        if number >= len(self.entries):
            return [-4]
        del self.entries[self.order()[number]]
        return [0]

    def get(self, number):
        if number >= len(self.entries):
            return [-4]
        pair = self.order()[number]
        told = [0, *self.entries[pair]]
        for part in pair:
            told += [len(part), *map(ord, part)]
        return told

    def number(self, reading, text):
        pair = (reading, text)
        return [self.order().index(pair)] if pair in self.entries else [-5]

    def how_many(self, reading):
        return sum(1 for pair in self.entries if pair[0] == reading)

    def first(self, reading):
        return sum(1 for pair in self.entries if pair[0] < reading)

    def begins(self, asked):
        told = []
        for length in range(len(asked) + 1):
            if self.how_many(asked[:length]):
                told += [length, self.first(asked[:length]), self.how_many(asked[:length])]
        return [len(told) // 3, *told]

    def going_on(self, asked):
        return [pair for pair in self.entries if pair[0].startswith(asked)]

    def likely(self, rank, asked):
        left = self.going_on(asked)
        if rank >= len(left):
            return [-5]
        for _ in range(rank):
            left.remove(min(left, key=lambda pair: (self.entries[pair][2], pair)))
        return [self.order().index(min(left, key=lambda pair: (self.entries[pair][2], pair)))]

    def asked_answer(self, call):
        """What a call that asks by rows answers."""
        ranks, rows = ([call[1]], call[2:]) if call[0] == 12 else ([], call[1:])
        parts = parted(rows)
        if max(map(len, parts)) > 64:
            return [-1]
        if any(0xD800 <= n <= 0xDFFF or n > 0x10FFFF for part in parts for n in part):
            return [-3]
        texts = ["".join(map(chr, part)) for part in parts]
        if call[0] == 8:
            return self.number(*texts)
        if call[0] == 9:
            return [self.how_many(*texts), self.first(*texts)]
        if call[0] == 10:
            return self.begins(*texts)
        if call[0] == 11:
            return [len(self.going_on(*texts)), self.first(*texts)]
        return self.likely(*ranks, *texts)

    def answer(self, call):
        """What a call, a list of numbers, answers."""
        if call[0] == 1:
            self.entries = {}
            return [0]
        if call[0] == 2:
            return self.read(call[2:])
        if call[0] == 3:
            return written(self.text())
        if call[0] == 4:
            return [len(self.entries)]
        if call[0] == 5:
            end = 5 + call[4]
            return self.put(call[5:end], call[end + 1:], *call[1:4])
        if call[0] == 6:
            return self.drop(call[1])
        if call[0] == 7:
            return self.get(call[1])
        return self.asked_answer(call)
