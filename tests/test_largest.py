"""The largest lists that the interface names, in reasonable time."""

import time
import unittest

from helper import COUNT, WRITE, begins, drop, find, get, goes, lexicon_text, likely, line, lines, number_of, octets, parted
from helper import put, read, written
from soundlex.words import answers

SECONDS = 20
MOST_CALL_NUMBERS = 47000


class Largest(unittest.TestCase):
    """The largest lists that the interface names, in reasonable time."""

    def told_in_time(self, *calls):
        numbers = [number for call in calls for number in call]
        self.assertLessEqual(len(numbers), MOST_CALL_NUMBERS)
        self.assertLessEqual(len(calls), 300)
        start = time.perf_counter()
        told = answers(numbers)
        self.assertLess(time.perf_counter() - start, SECONDS)
        self.assertLessEqual(len(told), 10000000)
        return told

    def text(self):
        words = [line(chr(0x10000 + number) + "\U0010ffff" * 31, "\U0010ffff" * 32, 255, 255, 65535) for number in range(128)]
        return "".join(words)

    def test_a_full_lexicon_written_again_and_again(self):
        text = self.text()
        one = [len(octets(text)) + 1, *written(text)]
        times = (10000000 - 2) // len(one)
        told = self.told_in_time(read(text), *[WRITE] * times)
        self.assertEqual(told[:2], [1, 128])
        self.assertEqual(told[2:], one * times)

    def test_a_full_lexicon_written_between_changes(self):
        calls = [read(self.text())]
        for number in range(149):
            calls.extend([put([0x10000] + [0x10FFFF] * 31, [0x10FFFF] * 32, 0, 0, number), WRITE])
        told = self.told_in_time(*calls)
        self.assertEqual(told[:4], [1, 128, 1, 0])

    def test_300_puts_of_the_longest_words(self):
        calls = [put([0x10FFFF] * 31 + [0x10000 + number], [0x10FFFF] * 32, 255, 255, 65535) for number in range(300)]
        self.assertEqual(self.told_in_time(*calls)[-2:], [1, -6])
        calls = [put([0x61] * 80, [0x62] * 70) for _ in range(300)]
        self.assertEqual(self.told_in_time(*calls), [1, -3] * 300)

    def test_texts_of_46000_bytes(self):
        cases = [("\n" * 46000, [-2, 0, 1]), (" " * 46000, [-2, 0, 1]), ("a" * 46000, [-2, 0, 1]),
                 ("a " * 23000, [-2, 0, 1]), ("a x 0 0 " + "9" * 45991 + "\n", [-2, 0, 2]),
                 ("a" * 45990 + " x 0 0 0\n", [-2, 0, 2]), ("\u3042" * 15330 + " x 0 0 0\n", [-2, 0, 2]),
                 (lines(3066), [-2, 128, 4]), (lines(128) + "a" * 44000, [-2, 128, 1])]
        for text, expected in cases:
            self.assertLessEqual(len(octets(text)), 46000)
            self.assertEqual(self.told_in_time(read(text), COUNT), [3, *expected, 1, 0])

    def test_many_texts(self):
        data = b"a x 0 0 0\n" + b"b x 0 0 0\n" * 14
        told = self.told_in_time(*[read(data)] * 300)
        self.assertEqual(told, [3, -2, 2, 3] * 300)

    def long_words(self):
        """128 words, all in order, whose readings differ in their last character alone."""
        return [("a" * 31 + chr(0x100 + place), "\U0010ffff" * 32, 255, 255, 65535 - place) for place in range(128)]

    def told_of_long_words(self, *calls):
        text = lexicon_text(self.long_words())
        told = parted(self.told_in_time(read(text), *calls))
        self.assertEqual(told[0], [128])
        return told[1:]

    def test_299_calls_that_ask_of_long_words(self):
        texts = [0x10FFFF] * 32
        rows = [[0x61] * 31 + [0x100 + place] for place in range(128)]
        told = self.told_of_long_words(*[get(place % 128) for place in range(299)])
        self.assertEqual(told, [[0, 255, 255, 65535 - place % 128, 32, *rows[place % 128], 32, *texts] for place in range(299)])
        told = self.told_of_long_words(*[find(rows[place % 128]) for place in range(299)])
        self.assertEqual(told, [[1, place % 128] for place in range(299)])
        told = self.told_of_long_words(*[goes("a" * 31) for _ in range(299)])
        self.assertEqual(told, [[128, 0]] * 299)
        told = self.told_of_long_words(*[likely(rank, "a" * 31) for rank in range(299)])
        self.assertEqual(told, [[127 - rank] for rank in range(128)] + [[-5]] * 171)
        told = self.told_of_long_words(*[begins(rows[127] + [0x61] * 32) for _ in range(299)])
        self.assertEqual(told, [[1, 32, 127, 1]] * 299)

    def test_number_of_long_words(self):
        rows = [[0x61] * 31 + [0x100 + place] for place in range(128)]
        text = "\U0010ffff" * 32
        told = self.told_of_long_words(*[number_of(rows[place % 128], text) for place in range(120)],
                                       *[number_of(rows[127] + [0x61] * 32, "a" * 64) for _ in range(120)])
        self.assertEqual(told, [[place] for place in range(120)] + [[-5]] * 120)

    def test_changes_with_calls_that_ask_between(self):
        calls = []
        for place in range(74):
            calls.extend([drop(0), likely(127, ""), put("a", "x", 0, 0, place), goes("a")])
        told = self.told_of_long_words(*calls)
        self.assertEqual(told, [[0], [-5], [0], [128, 0]] * 74)

    def test_rows_that_are_refused(self):
        calls = [call("a" * 80) for call in (find, begins, goes) for _ in range(99)]
        self.assertEqual(self.told_in_time(*calls), [1, -1] * 297)
        calls = [number_of("a" * 64, [0xD800] * 64), likely(0, [0x110000] * 64)] * 140
        self.assertEqual(self.told_in_time(*calls), [1, -3] * 280)


if __name__ == "__main__":
    unittest.main()
