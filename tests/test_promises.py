"""The promises C1, C3, C4 and MAIN, and what is said of every list of calls."""

import random
import time
import unittest

from helper import BEGIN, COUNT, MOST_CALL_NUMBERS, WRITE, PlainLexicon, drop, line, lines, octets, put, read, run, written
from soundlex.words import answers

SECONDS = 20


class TheRun(unittest.TestCase):
    """The run that the document tells."""

    PUTS = [put("ka", "K", 1, 2, 50), put("ka", "Q", 1, 1, 30), put("kan", "N", 3, 3, 70), put("k", "k", 0, 0, 100),
            put("ban", "B", 5, 5, 10)]

    def test_order(self):
        text = "ban B 5 5 10\nk k 0 0 100\nka Q 1 1 30\nka K 1 2 50\nkan N 3 3 70\n"
        self.assertEqual(run(*self.PUTS, COUNT, WRITE), [[0], [0], [2], [0], [0], [5], written(text)])

    def test_written_at_its_end(self):
        text = "k k 0 0 100\nka K 1 2 20\nka Q 1 1 30\nkan N 3 3 70\n"
        told = run(*self.PUTS, put("ka", "K", 1, 2, 20), drop(0), WRITE, COUNT)
        self.assertEqual(told[5:], [[2], [0], written(text), [4]])


class Lists(unittest.TestCase):
    """Lists of calls and of answers."""

    def test_an_empty_list(self):
        self.assertEqual(answers([]), [])

    def test_each_answer_has_its_length_before_it(self):
        calls = COUNT + put("a", "x") + WRITE + drop(1) + read("\n") + put("", "") + BEGIN + WRITE
        told = [1, 0, 1, 0, 11, 10, *b"a x 0 0 0\n", 1, -4, 3, -2, 0, 1, 1, -3, 1, 0, 1, 0]
        self.assertEqual(answers(calls), told)

    def test_refused_calls_among_others(self):
        told = run(drop(0), put("b", "x"), put("b", "x" * 33), COUNT, read("b"), put("a", "x"), drop(2), drop(1), WRITE)
        self.assertEqual(told, [[-4], [0], [-3], [1], [-2, 0, 1], [0], [-4], [0], written(line("a"))])

    def test_what_is_handed_in_stays(self):
        calls = read(lines(3)) + put("a", "x", 1, 2, 3) + WRITE + drop(0) + put("a", "x", 256) + read("no") + COUNT
        handed = list(calls)
        answers(handed)
        self.assertEqual(handed, calls)

    def test_what_is_answered_is_a_list_of_whole_numbers(self):
        told = answers(read(lines(3)) + put("a", "x", 1, 2, 3) + WRITE + drop(0) + drop(9) + read("no") + COUNT)
        self.assertIs(type(told), list)
        self.assertEqual({type(number) for number in told}, {int})

    def test_nothing_is_kept_from_one_time_to_the_next(self):
        calls = put("a", "x") + read(lines(3)) + WRITE + COUNT
        first = answers(calls)
        self.assertEqual(answers(COUNT + WRITE), [1, 0, 1, 0])
        self.assertEqual(answers(calls), first)
        first.clear()
        self.assertEqual(run(read(lines(3)), WRITE), [[3], written(lines(3))])

    def test_300_calls(self):
        self.assertEqual(run(*[COUNT] * 300), [[0]] * 300)
        self.assertEqual(run(*[put("a", "x", 0, 0, number) for number in range(299)], COUNT), [[0]] * 299 + [[1]])


class Promises(unittest.TestCase):
    WORDS = [("k", "K", 1, 2, 30), ("k", "Q", 3, 4, 20), ("ka", "K", 5, 6, 10), ("b", "K", 7, 8, 40), ("\u3042", "a", 0, 0, 0)]

    def test_c1_whatever_the_order_of_calls(self):
        chance = random.Random(1)
        expected = None
        for _ in range(50):
            some = list(self.WORDS)
            chance.shuffle(some)
            calls = []
            for word in some:
                # An older cost first, so that the latest has to take its place.
                calls.append(put(*word[:4], chance.randrange(100)))
            chance.shuffle(some)
            calls.extend([put(*word) for word in some])
            told = run(*calls, COUNT, WRITE)[-2:]
            expected = told if expected is None else expected
            self.assertEqual(told, expected)
        self.assertEqual(expected[0], [5])

    def test_c1_what_was_taken_out_is_out(self):
        calls = [put(*word) for word in self.WORDS]
        for number in range(5):
            told = run(*calls, drop(number), COUNT, WRITE)
            left = run(read(told[-1][1:]), COUNT)
            self.assertEqual(told[-2], [4])
            self.assertEqual(left, [[4], [4]])

    def test_c3_one_text_one_lexicon(self):
        plain = PlainLexicon()
        for word in self.WORDS:
            plain.put(*[octets_of(part) for part in word[:2]], *word[2:])
        for refused in ([], [put("", "")], [drop(128)], [read("no")], [read(lines(9)), BEGIN]):
            before = run(*refused, read(plain.text()), WRITE)
            again = run(read(before[-1][1:]), WRITE)
            self.assertEqual(before[-2:], again)

    def test_c3_other_lexicons_other_texts(self):
        words = [("a", "b", 1, 2, 3), ("b", "a", 1, 2, 3), ("a", "b", 2, 1, 3), ("a", "b", 1, 2, 30), ("a", "bb", 1, 2, 3)]
        texts = [tuple(run(put(*word), WRITE)[1]) for word in words]
        self.assertEqual(len(set(texts)), 5)

    def test_c4_refused_calls_change_nothing(self):
        refused = [put("", "x"), put("x", ""), put("k", "K", 256), put("k", "K", 0, 256), put("k", "K", 0, 0, 65536),
                   put("k" * 65, "K"), put([32], "K"), drop(5), drop(2097151), read("\n"), read("k K 1 2 3"),
                   read(lines(129)), read("k K 0 0 0\nk K 0 0 0\n"), read("a x 0 0 0\nb x 0 0 256\nc x 0 256 0\n")]
        calls = [put(*word) for word in self.WORDS]
        as_it_was = run(*calls, COUNT, WRITE)[5:]
        for call in refused:
            told = run(*calls, call, COUNT, WRITE)[5:]
            self.assertLess(told[0][0], 0)
            self.assertEqual(told[1:], as_it_was)
        told = run(*calls, *refused, COUNT, WRITE, put(*self.WORDS[0]), COUNT)
        self.assertEqual(told[-4:-2], as_it_was)
        self.assertEqual(told[-1], [5])


def octets_of(text):
    return [ord(sign) for sign in text]


class Chance:
    """Calls by chance, from a seed of its own, so that every run of the tests has the same ones."""

    SIGNS = [0x21, 0x61, 0x62, 0x7E, 0x80, 0x7FF, 0x800, 0x3042, 0xD7FF, 0xE000, 0xFFFD, 0x10000, 0x10FFFF]
    WRONG = [0, 0x0A, 0x20, 0x7F, 0xD800, 0xDFFF, 0x110000, 2097151]

    def __init__(self, seed):
        self.chance = random.Random(seed)

    def row(self):
        if self.chance.random() < 0.02:
            return self.chance.choices(self.SIGNS, k=self.chance.choice([0, 31, 32, 33, 64, 65, 80]))
        signs = self.SIGNS + (self.WRONG if self.chance.random() < 0.02 else [])
        return self.chance.choices(signs, k=self.chance.choice([1, 1, 2, 3]))

    def sort(self):
        return self.chance.choice([0, 1, 9, 10, 254, 255]) if self.chance.random() < 0.98 else 256

    def cost(self):
        return self.chance.choice([0, 1, 9, 10, 100, 65534, 65535]) if self.chance.random() < 0.98 else 65536

    def line(self):
        parts = ["".join(map(chr, self.chance.choices(self.SIGNS, k=self.chance.choice([1, 1, 2])))) for _ in "rt"]
        return " ".join([*parts, str(self.sort()), str(self.sort()), str(self.cost())]).encode() + b"\n"

    def text(self):
        data = list(b"".join([self.line() for _ in range(self.chance.choice([0, 1, 2, 5, 20]))]))
        while data and self.chance.random() < 0.4:
            at = self.chance.randrange(len(data))
            data[at:at + self.chance.choice([0, 1])] = self.chance.choices([*b" \n0a1", 0x80, 0xC2, 0xE3, 0xF0, 0xFF],
                                                                           k=self.chance.choice([0, 1]))
        return data

    def call(self):
        kind = self.chance.choices([1, 2, 3, 4, 5, 6], [0.2, 1, 3, 1, 12, 3])[0]
        if kind == 2:
            return read(self.text())
        if kind == 5:
            return put(self.row(), self.row(), self.sort(), self.sort(), self.cost())
        if kind == 6:
            return drop(self.chance.choice([0, 1, 2, 5, 10, 127]))
        return [kind]


class Main(unittest.TestCase):
    """Whatever was called: the answers are those of the document's sentences."""

    def assert_as_plain(self, calls):
        plain = PlainLexicon()
        self.assertEqual(run(*calls), [plain.answer(call) for call in calls])

    def test_calls_by_chance(self):
        for seed in range(150):
            some = Chance(seed)
            self.assert_as_plain([some.call() for _ in range(300)])

    def test_texts_by_chance(self):
        for seed in range(150):
            some = Chance(seed)
            self.assert_as_plain([call for _ in range(50) for call in (read(some.text()), WRITE)])

    def test_full_lexicons_by_chance(self):
        for seed in range(20):
            some = Chance(seed)
            calls = [read(lines(120))]
            while len(calls) < 250:
                calls.append(put(some.row(), some.row(), some.sort(), some.sort(), some.cost()))
                if some.chance.random() < 0.2:
                    calls.append(drop(some.chance.randrange(130)))
            self.assert_as_plain(calls + [WRITE, COUNT])


class Largest(unittest.TestCase):
    """The largest lists that the interface names, in reasonable time."""

    def told_in_time(self, *calls):
        numbers = [number for call in calls for number in call]
        self.assertLessEqual(len(numbers), MOST_CALL_NUMBERS)
        self.assertLessEqual(len(calls), 300)
        start = time.perf_counter()
        told = answers(numbers)
        self.assertLess(time.perf_counter() - start, SECONDS)
        self.assertLessEqual(len(told), 10000000)
        return told

    def text(self):
        words = [line(chr(0x10000 + number) + "\U0010ffff" * 31, "\U0010ffff" * 32, 255, 255, 65535) for number in range(128)]
        return "".join(words)

    def test_a_full_lexicon_written_again_and_again(self):
        text = self.text()
        one = [len(octets(text)) + 1, *written(text)]
        times = (10000000 - 2) // len(one)
        told = self.told_in_time(read(text), *[WRITE] * times)
        self.assertEqual(told[:2], [1, 128])
        self.assertEqual(told[2:], one * times)

    def test_a_full_lexicon_written_between_changes(self):
        calls = [read(self.text())]
        for number in range(149):
            calls.extend([put([0x10000] + [0x10FFFF] * 31, [0x10FFFF] * 32, 0, 0, number), WRITE])
        told = self.told_in_time(*calls)
        self.assertEqual(told[:4], [1, 128, 1, 0])

    def test_300_puts_of_the_longest_words(self):
        calls = [put([0x10FFFF] * 31 + [0x10000 + number], [0x10FFFF] * 32, 255, 255, 65535) for number in range(300)]
        self.assertEqual(self.told_in_time(*calls)[-2:], [1, -6])
        calls = [put([0x61] * 80, [0x62] * 70) for _ in range(300)]
        self.assertEqual(self.told_in_time(*calls), [1, -3] * 300)

    def test_texts_of_46000_bytes(self):
        cases = [("\n" * 46000, [-2, 0, 1]), (" " * 46000, [-2, 0, 1]), ("a" * 46000, [-2, 0, 1]),
                 ("a " * 23000, [-2, 0, 1]), ("a x 0 0 " + "9" * 45991 + "\n", [-2, 0, 2]),
                 ("a" * 45990 + " x 0 0 0\n", [-2, 0, 2]), ("\u3042" * 15330 + " x 0 0 0\n", [-2, 0, 2]),
                 (lines(3066), [-2, 128, 4]), (lines(128) + "a" * 44000, [-2, 128, 1])]
        for text, expected in cases:
            self.assertLessEqual(len(octets(text)), 46000)
            self.assertEqual(self.told_in_time(read(text), COUNT), [3, *expected, 1, 0])

    def test_many_texts(self):
        data = b"a x 0 0 0\n" + b"b x 0 0 0\n" * 14
        told = self.told_in_time(*[read(data)] * 300)
        self.assertEqual(told, [3, -2, 2, 3] * 300)


if __name__ == "__main__":
    unittest.main()
