"""The promise MAIN: whatever was put in and taken out, and whatever is asked, by chance."""

import itertools
import random
import unittest

from helper import COUNT, WRITE, PlainLexicon, begins, drop, find, get, goes, likely, lines, number_of, put, read, run


class Chance:
    """Calls by chance, from a seed of its own, so that every run of the tests has the same ones."""

    SIGNS = [0x21, 0x61, 0x62, 0x7E, 0x80, 0x7FF, 0x800, 0x3042, 0xD7FF, 0xE000, 0xFFFD, 0x10000, 0x10FFFF]
    WRONG = [0, 0x0A, 0x20, 0x7F, 0xD800, 0xDFFF, 0x110000, 2097151]

    # So few that many readings are the same, or begin one another.
    FEW_SIGNS = [0x61, 0xFFFD, 0x10000]

    def __init__(self, seed, signs=SIGNS):
        self.chance = random.Random(seed)
        self.signs = signs

    def row(self, lengths=(1, 1, 2, 3)):
        if self.chance.random() < 0.02:
            return self.chance.choices(self.signs, k=self.chance.choice([0, 31, 32, 33, 64, 65, 80]))
        signs = self.signs + (self.WRONG if self.chance.random() < 0.02 else [])
        return self.chance.choices(signs, k=self.chance.choice(lengths))

    def asked_row(self):
        return self.row((0, 1, 1, 2, 2, 3, 4))

    def sort(self):
        return self.chance.choice([0, 1, 9, 10, 254, 255]) if self.chance.random() < 0.98 else 256

    def cost(self):
        return self.chance.choice([0, 1, 9, 10, 100, 65534, 65535]) if self.chance.random() < 0.98 else 65536

    def line(self):
        parts = ["".join(map(chr, self.chance.choices(self.signs, k=self.chance.choice([1, 1, 2])))) for _ in "rt"]
        return " ".join([*parts, str(self.sort()), str(self.sort()), str(self.cost())]).encode() + b"\n"

    def text(self):
        data = list(b"".join([self.line() for _ in range(self.chance.choice([0, 1, 2, 5, 20]))]))
        while data and self.chance.random() < 0.4:
            at = self.chance.randrange(len(data))
            data[at:at + self.chance.choice([0, 1])] = self.chance.choices([*b" \n0a1", 0x80, 0xC2, 0xE3, 0xF0, 0xFF],
                                                                           k=self.chance.choice([0, 1]))
        return data

    def call(self):
        kind = self.chance.choices(range(1, 7), [0.2, 1, 3, 1, 12, 3])[0]
        if kind == 2:
            return read(self.text())
        if kind == 5:
            return put(self.row(), self.row(), self.sort(), self.sort(), self.cost())
        if kind == 6:
            return drop(self.chance.choice([0, 1, 2, 5, 10, 127]))
        return [kind]

    def asking_call(self):
        kind = self.chance.randrange(7, 13)
        if kind == 7:
            return get(self.chance.choice([0, 1, 2, 5, 10, 127]))
        if kind == 8:
            return number_of(self.asked_row(), self.row())
        if kind == 12:
            return likely(self.chance.choice([0, 0, 1, 1, 2, 3, 5, 10]), self.asked_row())
        return {9: find, 10: begins, 11: goes}[kind](self.asked_row())

    def any_call(self):
        return self.call() if self.chance.random() < 0.4 else self.asking_call()


class Main(unittest.TestCase):
    """Whatever was called: the answers are those of the document's sentences."""

    def assert_as_plain(self, calls):
        plain = PlainLexicon()
        self.assertEqual(run(*calls), [plain.answer(call) for call in calls])

    def test_calls_by_chance(self):
        for seed in range(150):
            some = Chance(seed)
            self.assert_as_plain([some.call() for _ in range(300)])

    def test_calls_that_ask_by_chance(self):
        for signs in (Chance.SIGNS, Chance.FEW_SIGNS):
            for seed in range(150):
                some = Chance(seed, signs)
                self.assert_as_plain([some.any_call() for _ in range(300)])

    def test_large_lexicons_asked_by_chance(self):
        for seed in range(60):
            some = Chance(seed, Chance.FEW_SIGNS)
            calls = [put(some.row((1, 2, 3, 4)), some.row((1, 2)), some.sort(), some.sort(), some.cost()) for _ in range(150)]
            self.assert_as_plain(calls + [some.asking_call() for _ in range(150)])

    def test_everything_that_can_be_asked(self):
        """Of one lexicon, all rows of few signs: those of its readings, their beginnings, and others."""
        some = Chance(1)
        rows = [list(part) for length in range(4) for part in itertools.product(Chance.FEW_SIGNS, repeat=length)]
        words = [(row, [0x61 + place], 0, 0, some.chance.randrange(4)) for row in rows[1::2] for place in range(2)]
        puts = [put(*word) for word in words]
        asked = [call for row in rows for call in (find(row), begins(row), goes(row), number_of(row, "a"), number_of(row, "b"))]
        ranked = [likely(rank, row) for row in rows[:13] for rank in range(len(words) + 1)]
        for calls in (asked, ranked):
            for start in range(0, len(calls), 200):
                self.assert_as_plain(puts + calls[start:start + 200])
        self.assert_as_plain(puts + [get(place) for place in range(len(words) + 1)])

    def test_texts_by_chance(self):
        for seed in range(150):
            some = Chance(seed)
            self.assert_as_plain([call for _ in range(50) for call in (read(some.text()), WRITE)])

    def test_full_lexicons_by_chance(self):
        for seed in range(20):
            some = Chance(seed)
            calls = [read(lines(120))]
            while len(calls) < 250:
                calls.append(put(some.row(), some.row(), some.sort(), some.sort(), some.cost()))
                if some.chance.random() < 0.2:
                    calls.append(drop(some.chance.randrange(130)))
                if some.chance.random() < 0.4:
                    calls.append(some.asking_call())
            self.assert_as_plain(calls + [WRITE, COUNT])


if __name__ == "__main__":
    unittest.main()
