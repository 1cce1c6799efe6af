"""The promises C1 to C4, the document's run, and what is said of every list of calls."""

import random
import unittest

from helper import BEGIN, COUNT, WRITE, begins, drop, find, get, goes, lexicon_text, likely, line, lines, number_of, put, read
from helper import PlainLexicon, row, run, written
from soundlex.words import answers


class TheRun(unittest.TestCase):
    """The run that the document tells."""

    PUTS = [put("ka", "K", 1, 2, 50), put("ka", "Q", 1, 1, 30), put("kan", "N", 3, 3, 70), put("k", "k", 0, 0, 100),
            put("ban", "B", 5, 5, 10)]

    def test_order(self):
        text = "ban B 5 5 10\nk k 0 0 100\nka Q 1 1 30\nka K 1 2 50\nkan N 3 3 70\n"
        self.assertEqual(run(*self.PUTS, COUNT, WRITE), [[0], [0], [2], [0], [0], [5], written(text)])

    def test_asked(self):
        told = run(*self.PUTS, find("ka"), find("kb"), find("a"), begins("kana"), goes("ka"), goes("k"), goes(""))
        self.assertEqual(told[5:], [[2, 2], [0, 5], [0, 0], [3, 1, 1, 1, 2, 2, 2, 3, 4, 1], [3, 2], [4, 1], [5, 0]])

    def test_likely(self):
        told = run(*self.PUTS, *[likely(rank, "k") for rank in range(5)], *[likely(rank, "") for rank in range(6)])
        self.assertEqual(told[5:], [[2], [3], [4], [1], [-5], [0], [2], [3], [4], [1], [-5]])

    def test_each_word_by_its_number(self):
        pairs = [("ban", "B"), ("k", "k"), ("ka", "Q"), ("ka", "K"), ("kan", "N")]
        told = run(*self.PUTS, *[number_of(*pair) for pair in pairs], get(2), get(4))
        self.assertEqual(told[5:10], [[0], [1], [2], [3], [4]])
        self.assertEqual(told[10:], [[0, 1, 1, 30, 2, *b"ka", 1, *b"Q"], [0, 3, 3, 70, 3, *b"kan", 1, *b"N"]])

    def test_its_end(self):
        told = run(*self.PUTS, put("ka", "K", 1, 2, 20), number_of("ka", "Q"), drop(0), goes("k"), WRITE)
        text = "k k 0 0 100\nka K 1 2 20\nka Q 1 1 30\nkan N 3 3 70\n"
        self.assertEqual(told[5:], [[2], [3], [0], [4, 0], written(text)])

    def test_written_at_its_end(self):
        text = "k k 0 0 100\nka K 1 2 20\nka Q 1 1 30\nkan N 3 3 70\n"
        told = run(*self.PUTS, put("ka", "K", 1, 2, 20), drop(0), WRITE, COUNT)
        self.assertEqual(told[5:], [[2], [0], written(text), [4]])


class Lists(unittest.TestCase):
    """Lists of calls and of answers."""

    ASKED = (get(0) + get(9) + number_of("w00000", "x") + find("w") + begins("w00000") + goes("") + likely(1, "w")
             + likely(9, "w") + likely(0, [0xD800]))

    def test_an_empty_list(self):
        self.assertEqual(answers([]), [])

    def test_each_answer_has_its_length_before_it(self):
        calls = COUNT + put("a", "x") + WRITE + drop(1) + read("\n") + put("", "") + BEGIN + WRITE
        told = [1, 0, 1, 0, 11, 10, *b"a x 0 0 0\n", 1, -4, 3, -2, 0, 1, 1, -3, 1, 0, 1, 0]
        self.assertEqual(answers(calls), told)

    def test_calls_that_ask_one_behind_another(self):
        calls = put("a", "x", 1, 2, 3) + get(0) + number_of("a", "x") + find("a") + begins("aa") + goes("") + likely(0, "")
        calls += COUNT
        told = [1, 0, 8, 0, 1, 2, 3, 1, 97, 1, 120, 1, 0, 2, 1, 0, 4, 1, 1, 0, 1, 2, 1, 0, 1, 0, 1, 1]
        self.assertEqual(answers(calls), told)
        calls = get(1) + number_of("", "") + find("") + begins("") + goes("") + likely(0, "") + find("a" * 80) + goes([0xD800])
        calls += COUNT
        self.assertEqual(answers(calls), [1, -4, 1, -5, 2, 0, 0, 1, 0, 2, 0, 0, 1, -5, 1, -1, 1, -3, 1, 0])

    def test_refused_calls_among_others(self):
        told = run(drop(0), put("b", "x"), put("b", "x" * 33), COUNT, read("b"), put("a", "x"), drop(2), drop(1), WRITE)
        self.assertEqual(told, [[-4], [0], [-3], [1], [-2, 0, 1], [0], [-4], [0], written(line("a"))])

    def test_what_is_handed_in_stays(self):
        calls = read(lines(3)) + put("a", "x", 1, 2, 3) + WRITE + drop(0) + put("a", "x", 256) + read("no") + COUNT
        calls += self.ASKED
        handed = list(calls)
        answers(handed)
        self.assertEqual(handed, calls)

    def test_what_is_answered_is_a_list_of_whole_numbers(self):
        calls = read(lines(3)) + put("a", "x", 1, 2, 3) + WRITE + drop(0) + drop(9) + read("no") + COUNT
        told = answers(calls + self.ASKED)
        self.assertIs(type(told), list)
        self.assertEqual({type(number) for number in told}, {int})

    def test_nothing_is_kept_from_one_time_to_the_next(self):
        calls = put("a", "x") + read(lines(3)) + WRITE + COUNT
        first = answers(calls)
        self.assertEqual(answers(COUNT + WRITE), [1, 0, 1, 0])
        self.assertEqual(run(get(0), number_of("a", "x"), goes(""), likely(0, "")), [[-4], [-5], [0, 0], [-5]])
        self.assertEqual(answers(calls), first)
        first.clear()
        self.assertEqual(run(read(lines(3)), WRITE), [[3], written(lines(3))])

    def test_300_calls(self):
        self.assertEqual(run(*[COUNT] * 300), [[0]] * 300)
        self.assertEqual(run(*[put("a", "x", 0, 0, cost) for cost in range(299)], COUNT), [[0]] * 299 + [[1]])
        asked = [get(0), number_of("a", "x"), find("a"), begins("a"), goes("a"), likely(0, "a")] * 49
        told = [[0, 1, 2, 3, 1, 97, 1, 120], [0], [1, 0], [1, 1, 0, 1], [1, 0], [0]] * 49
        self.assertEqual(run(put("a", "x", 1, 2, 3), *asked, *[COUNT] * 5), [[0], *told, *[[1]] * 5])


class Promises(unittest.TestCase):
    WORDS = [("k", "K", 1, 2, 30), ("k", "Q", 3, 4, 20), ("ka", "K", 5, 6, 10), ("b", "K", 7, 8, 40), ("\u3042", "a", 0, 0, 0)]
    READINGS = ["a", "ab", "aba", "abac", "abb", "b", "ba", "bab", "\ufffd", "\ufffda", "\U00010000", "\U00010000a"]

    def test_c1_whatever_the_order_of_calls(self):
        chance = random.Random(1)
        expected = None
        for _ in range(50):
            some = list(self.WORDS)
            chance.shuffle(some)
            calls = []
            for word in some:
                # An older cost first, so that the latest has to take its place.
                calls.append(put(*word[:4], chance.randrange(100)))
            chance.shuffle(some)
            calls.extend([put(*word) for word in some])
            asked = [COUNT, WRITE, *[get(place) for place in range(5)], find("k"), begins("ka"), goes("k"), number_of("k", "K"),
                     *[likely(rank, "") for rank in range(5)]]
            told = run(*calls, *asked)[10:]
            expected = told if expected is None else expected
            self.assertEqual(told, expected)
        self.assertEqual(expected[0], [5])
        self.assertEqual(expected[7:], [[2, 1], [2, 1, 1, 2, 2, 3, 1], [3, 1], [2], [4], [3], [1], [2], [0]])

    def test_c1_what_was_taken_out_is_out(self):
        calls = [put(*word) for word in self.WORDS]
        for place in range(5):
            told = run(*calls, drop(place), COUNT, WRITE)
            left = run(read(told[-1][1:]), COUNT)
            self.assertEqual(told[-2], [4])
            self.assertEqual(left, [[4], [4]])

    def test_c1_each_word_is_told_once(self):
        calls = [put(*word) for word in self.WORDS] + [put(*word[:4], 99) for word in self.WORDS]
        asked = [get(place) for place in range(6)] + [goes("")] + [number_of(*word[:2]) for word in self.WORDS]
        told = run(*calls, *asked)
        self.assertEqual([answer[3] for answer in told[10:15]], [99] * 5)
        self.assertEqual(len({tuple(answer[4:]) for answer in told[10:15]}), 5)
        self.assertEqual(told[15:17], [[-4], [5, 0]])
        self.assertEqual(sorted(told[17:]), [[0], [1], [2], [3], [4]])

    def test_c2_what_is_found_is_all_there_is(self):
        """Of each row just those words are found of which it is so; the others are not."""
        pairs = [(reading, text) for reading in self.READINGS for text in "xyz"]
        words = [(*pair, 1, 2, (7 * len(pair[0]) + ord(pair[1])) % 3) for pair in pairs]
        words = sorted(words, key=lambda word: (word[0], word[4], word[1]))
        full = read(lexicon_text(words))
        for asked in ("", "a", "b", "c", "ab", "aba", "abab", "ba", "bb", "abb", "\ufffd", "\U00010000", "\U00010000a"):
            ranks = [likely(rank, asked) for rank in range(len(words))]
            told = run(full, find(asked), begins(asked), goes(asked), *ranks)[1:]
            same = [place for place, word in enumerate(words) if word[0] == asked]
            going = [place for place, word in enumerate(words) if word[0][:len(asked)] == asked]
            self.assertEqual(told[0][0], len(same))
            self.assertEqual(list(range(told[0][1], sum(told[0]))), same)
            firsts, counts = told[1][2::3], told[1][3::3]
            beginning = [place for first, count in zip(firsts, counts) for place in range(first, first + count)]
            self.assertEqual(beginning, [place for place, word in enumerate(words) if asked[:len(word[0])] == word[0]])
            self.assertEqual(told[1][1::3], [len(words[first][0]) for first in firsts])
            self.assertEqual(told[1][0], len(firsts))
            self.assertEqual(list(range(told[2][1], sum(told[2]))), going)
            ranked = sorted(going, key=lambda place: (words[place][4], place))
            self.assertEqual(told[3:], [[place] for place in ranked] + [[-5]] * (len(words) - len(going)))

    def test_c3_one_text_one_lexicon(self):
        plain = PlainLexicon()
        for word in self.WORDS:
            plain.put(row(word[0]), row(word[1]), *word[2:])
        for refused in ([], [put("", "")], [drop(128)], [read("no")], [read(lines(9)), BEGIN]):
            before = run(*refused, read(plain.text()), WRITE)
            again = run(read(before[-1][1:]), WRITE)
            self.assertEqual(before[-2:], again)

    def test_c3_other_lexicons_other_texts(self):
        words = [("a", "b", 1, 2, 3), ("b", "a", 1, 2, 3), ("a", "b", 2, 1, 3), ("a", "b", 1, 2, 30), ("a", "bb", 1, 2, 3)]
        texts = [tuple(run(put(*word), WRITE)[1]) for word in words]
        self.assertEqual(len(set(texts)), 5)

    def test_c4_refused_calls_change_nothing(self):
        refused = [put("", "x"), put("x", ""), put("k", "K", 256), put("k", "K", 0, 256), put("k", "K", 0, 0, 65536),
                   put("k" * 65, "K"), put([32], "K"), drop(5), drop(2097151), read("\n"), read("k K 1 2 3"),
                   read(lines(129)), read("k K 0 0 0\nk K 0 0 0\n"), read("a x 0 0 0\nb x 0 0 256\nc x 0 256 0\n"),
                   get(5), get(2097151), number_of("k", ""), number_of("k" * 65, "K"), number_of("k", [0xD800]), find("k" * 65),
                   find([0xDFFF]), begins("k" * 80), begins([0x110000]), goes("k" * 65), goes([2097151]), likely(3, "k"),
                   likely(0, "k" * 65), likely(0, [0xD800]), likely(2097151, "")]
        calls = [put(*word) for word in self.WORDS]
        asked = [COUNT, WRITE, *[get(place) for place in range(6)], goes(""), begins("ka"), find("k"), likely(4, "")]
        as_it_was = run(*calls, *asked)[5:]
        for call in refused:
            told = run(*calls, call, *asked)[5:]
            self.assertLess(told[0][0], 0)
            self.assertEqual(len(told[0]), 3 if call[0] == 2 else 1)
            self.assertEqual(told[1:], as_it_was)
        told = run(*calls, *refused, *asked, put(*self.WORDS[0]), COUNT)
        self.assertEqual(told[-len(asked) - 2:-2], as_it_was)
        self.assertEqual(told[-1], [5])


if __name__ == "__main__":
    unittest.main()
