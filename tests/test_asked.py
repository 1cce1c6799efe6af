"""The calls get, number, find, begins, goes and likely."""

import unittest

from helper import BEGIN, COUNT, WRITE, begins, drop, find, get, goes, lexicon_text, likely, lines, number_of, put, read, run
from helper import written

NO_CHARACTERS = (0xD800, 0xDABC, 0xDBFF, 0xDC00, 0xDFFF, 0x110000, 0x110001, 2097151)
# Characters all the same, though none of them may stand in a word.
NOT_IN_WORDS = (0, 1, 0x0A, 0x1F, 0x20, 0x7F)
ROW_CALLS = {
    "number's reading": lambda row: number_of(row, "K"),
    "number's text": lambda row: number_of("ka", row),
    "find": find,
    "begins": begins,
    "goes": goes,
    "likely": lambda row: likely(0, row),
    "likely, not so many": lambda row: likely(2097151, row),
}
# As they are in order: each its reading, text, left sort, right sort, cost.
WORDS = [("ban", "B", 5, 5, 10), ("k", "k", 0, 0, 100), ("ka", "Q", 1, 1, 30), ("ka", "K", 1, 2, 50),
         ("kan", "N", 3, 3, 70)]


class Asked(unittest.TestCase):
    words = WORDS

    def told(self, *calls):
        """What calls answer on a lexicon of the words; which stays as it is."""
        text = lexicon_text(self.words)
        told = run(read(text), *calls, COUNT, WRITE)
        self.assertEqual(told[0], [len(self.words)])
        self.assertEqual(told[-2:], [[len(self.words)], written(text)])
        return told[1:-2]

    def assert_told(self, call, *answer):
        self.assertEqual(self.told(call), [list(answer)], call)


class Refusals(Asked):
    def assert_refused(self, call, refusal):
        """A call is refused, whatever the lexicon holds."""
        self.assert_told(call, refusal)
        self.assertEqual(run(call), [[refusal]], call)
        self.assertEqual(run(read(lines(128)), call)[1:], [[refusal]], call)

    def test_64_and_65_characters(self):
        for name, call in ROW_CALLS.items():
            with self.subTest(name):
                self.assertNotIn(self.told(call("k" * 64))[0][0], (-1, -3))
                for length in (65, 66, 80):
                    self.assert_refused(call("k" * length), -1)

    def test_33_to_64_characters(self):
        for length in range(33, 65):
            self.assert_told(number_of("k" * length, "k"), -5)
            self.assert_told(number_of("k", "k" * length), -5)
            self.assert_told(find("k" * length), 0, 5)
            self.assert_told(begins("k" * length), 1, 1, 1, 1)
            self.assert_told(goes("a" * length), 0, 0)
            self.assert_told(likely(0, "k" * length), -5)

    def test_something_that_is_no_character(self):
        for name, call in ROW_CALLS.items():
            with self.subTest(name):
                for wrong in NO_CHARACTERS:
                    for row in ([wrong], [0x6B, wrong], [wrong, 0x6B], [0x6B, wrong, 0x61], [0x6B] * 63 + [wrong]):
                        self.assert_refused(call(row), -3)

    def test_too_long_goes_before_no_character(self):
        for name, call in ROW_CALLS.items():
            with self.subTest(name):
                self.assert_refused(call([0xD800] * 65), -1)
                self.assert_refused(call([0x6B] * 64 + [0x110000]), -1)
                self.assert_refused(call([0xDFFF] + [0x6B] * 64), -1)

    def test_one_row_of_number_too_long(self):
        self.assert_refused(number_of("k", "k" * 65), -1)
        self.assert_refused(number_of("k" * 65, "k"), -1)
        self.assert_refused(number_of([0xD800], "k" * 65), -1)
        self.assert_refused(number_of("k" * 65, [0x110000]), -1)
        self.assert_refused(number_of("", "k" * 65), -1)
        self.assert_refused(number_of("k" * 65, ""), -1)

    def test_number_of_rows_that_no_word_could_have(self):
        for wrong in NO_CHARACTERS:
            self.assert_refused(number_of("", [wrong]), -3)
            self.assert_refused(number_of([wrong], ""), -3)
            self.assert_refused(number_of("k" * 64, [wrong]), -3)

    def test_characters_that_may_not_stand_in_a_word(self):
        for sign in (*NOT_IN_WORDS, 0x21, 0xD7FF, 0xE000, 0xFFFE, 0xFFFF, 0x10000, 0x10FFFF):
            before = 0 if sign < 0x62 else 5
            self.assert_told(number_of([sign], "k"), -5)
            self.assert_told(number_of("k", [sign]), -5)
            self.assert_told(find([sign]), 0, before)
            self.assert_told(find([0x6B, sign]), 0, 2 if sign < 0x61 else 5)
            self.assert_told(begins([sign]), 0)
            self.assert_told(begins([0x6B, sign]), 1, 1, 1, 1)
            self.assert_told(begins([0x6B, 0x61, sign]), 2, 1, 1, 1, 2, 2, 2)
            self.assert_told(goes([sign]), 0, before)
            self.assert_told(goes([0x6B, sign]), 0, 2 if sign < 0x61 else 5)
            self.assert_told(likely(0, [sign]), -5)
            self.assert_told(likely(0, [0x6B, sign]), -5)

    def test_get_has_no_other_refusal(self):
        for wrong in (5, 6, 64, 65, 127, 128, 0xD800, 0x110000, 2097151):
            self.assert_told(get(wrong), -4)
            self.assertEqual(run(get(wrong)), [[-4]])


class Get(Asked):
    def test_each_word(self):
        self.assert_told(get(0), 0, 5, 5, 10, 3, *b"ban", 1, *b"B")
        self.assert_told(get(1), 0, 0, 0, 100, 1, *b"k", 1, *b"k")
        self.assert_told(get(2), 0, 1, 1, 30, 2, *b"ka", 1, *b"Q")
        self.assert_told(get(3), 0, 1, 2, 50, 2, *b"ka", 1, *b"K")
        self.assert_told(get(4), 0, 3, 3, 70, 3, *b"kan", 1, *b"N")

    def test_no_word(self):
        self.assert_told(get(5), -4)
        self.assertEqual(run(get(0)), [[-4]])

    def test_the_last_of_128(self):
        told = run(read(lines(128)), get(0), get(127), get(128), get(129))
        self.assertEqual(told[1:], [[0, 0, 0, 0, 6, *b"w00000", 1, *b"x"], [0, 0, 0, 0, 6, *b"w00127", 1, *b"x"], [-4], [-4]])

    def test_the_largest_word(self):
        reading, text = [0x10FFFF] * 32, [0xFFFD] * 31 + [0x10000]
        told = run(put(reading, text, 255, 254, 65535), get(0))
        self.assertEqual(told[1], [0, 255, 254, 65535, 32, *reading, 32, *text])

    def test_left_before_right_and_reading_before_text(self):
        self.assertEqual(run(put("ab", "c", 1, 2, 3), get(0))[1], [0, 1, 2, 3, 2, 0x61, 0x62, 1, 0x63])


class Number(Asked):
    def test_each_word(self):
        for place, word in enumerate(WORDS):
            self.assert_told(number_of(*word[:2]), place)

    def test_a_reading_or_a_text_that_no_word_has(self):
        for reading, text in (("x", "y"), ("ka", "x"), ("x", "K"), ("kana", "N"), ("kan", "NN"), ("k", "K"), ("K", "k")):
            self.assert_told(number_of(reading, text), -5)

    def test_the_reading_of_one_word_with_the_text_of_another(self):
        for word in WORDS:
            for other in WORDS:
                if word[0] != other[0]:
                    self.assert_told(number_of(word[0], other[1]), -5)

    def test_parts_at_another_place(self):
        self.words = [("a", "bc"), ("c", "ab")]
        self.assert_told(number_of("ab", "c"), -5)
        self.assert_told(number_of("bc", "a"), -5)
        self.assert_told(number_of("a", "bc"), 0)
        self.assert_told(number_of("c", "ab"), 1)

    def test_empty_rows(self):
        for reading, text in (("", ""), ("k", ""), ("", "k"), ("ka", ""), ("", "K")):
            self.assert_told(number_of(reading, text), -5)
            self.assertEqual(run(number_of(reading, text)), [[-5]])

    def test_beginnings_are_no_words(self):
        self.assert_told(number_of("ba", "B"), -5)
        self.words = [("ka", "KA")]
        self.assert_told(number_of("ka", "K"), -5)
        self.assert_told(number_of("k", "KA"), -5)
        self.assert_told(number_of("ka", "KAA"), -5)

    def test_the_first_and_the_last_of_128(self):
        told = run(read(lines(128)), number_of("w00000", "x"), number_of("w00127", "x"), number_of("w00128", "x"))
        self.assertEqual(told[1:], [[0], [127], [-5]])


class Find(Asked):
    def test_one_and_several_words_of_one_reading(self):
        self.assert_told(find("ban"), 1, 0)
        self.assert_told(find("k"), 1, 1)
        self.assert_told(find("ka"), 2, 2)
        self.assert_told(find("kan"), 1, 4)

    def test_none_before_all_between_behind_all(self):
        none_before = ["", "a", "b", "ba", [0] * 64]
        between = [("bana", 1), ("c", 1), ("j" * 64, 1), ("k!", 2), ("k" + "`" * 63, 2), ("ka!", 4), ("kaa", 4), ("kam", 4)]
        behind_all = ["kan!", "kana", "kao", "kb", "l", [0x10FFFF] * 64]
        for row, before in [(row, 0) for row in none_before] + between + [(row, 5) for row in behind_all]:
            self.assert_told(find(row), 0, before)

    def test_in_an_empty_lexicon(self):
        for row in ("", "a", [0], [0x10FFFF] * 64):
            self.assertEqual(run(find(row)), [[0, 0]])

    def test_a_beginning_stands_before_what_it_begins(self):
        self.words = [("a", "x", 0, 0, 9), ("ab", "x", 0, 0, 5), ("abc", "x", 0, 0, 0), ("ac", "x", 0, 0, 0)]
        self.assert_told(find("a"), 1, 0)
        self.assert_told(find("ab"), 1, 1)
        self.assert_told(find("abc"), 1, 2)
        self.assert_told(find("abb"), 0, 2)
        self.assert_told(find("abcd"), 0, 3)
        self.assert_told(find("ac"), 1, 3)

    def test_all_words_of_one_reading(self):
        self.words = [("a", "x%03d" % place, 0, 0, place) for place in range(128)]
        self.assert_told(find("a"), 128, 0)
        self.assert_told(find("aa"), 0, 128)
        self.assert_told(find("!"), 0, 0)


class Begins(Asked):
    def test_all_lengths(self):
        self.assert_told(begins("kana"), 3, 1, 1, 1, 2, 2, 2, 3, 4, 1)

    def test_the_whole_row_as_a_reading(self):
        self.assert_told(begins("kan"), 3, 1, 1, 1, 2, 2, 2, 3, 4, 1)
        self.assert_told(begins("ka"), 2, 1, 1, 1, 2, 2, 2)
        self.assert_told(begins("k"), 1, 1, 1, 1)
        self.assert_told(begins("ban"), 1, 3, 0, 1)

    def test_a_longer_reading_does_not_begin_here(self):
        self.assert_told(begins("ba"), 0)
        self.assert_told(begins("b"), 0)

    def test_none_at_all(self):
        for row in ("x", "a", "an", "akan", "K", "\u3042"):
            self.assert_told(begins(row), 0)

    def test_the_empty_row(self):
        self.assert_told(begins(""), 0)

    def test_in_an_empty_lexicon(self):
        for row in ("", "k", "kana"):
            self.assertEqual(run(begins(row)), [[0]])

    def test_other_words_between(self):
        self.words = [("a", "x"), ("a", "y"), ("aa", "x"), ("ab", "x"), ("aba", "x"), ("abc", "x"), ("abc", "y"), ("abc", "z"),
                      ("abcde", "x"), ("b", "x")]
        self.assert_told(begins("abcd"), 3, 1, 0, 2, 2, 3, 1, 3, 5, 3)
        self.assert_told(begins("abcdef"), 4, 1, 0, 2, 2, 3, 1, 3, 5, 3, 5, 8, 1)
        self.assert_told(begins("ac"), 1, 1, 0, 2)
        self.assert_told(begins("aab"), 2, 1, 0, 2, 2, 2, 1)
        self.assert_told(begins("ba"), 1, 1, 9, 1)

    def test_32_lengths_of_a_row_of_64(self):
        self.words = [("a" * length, "x", 0, 0, 65535 - length) for length in range(1, 33)]
        told = [part for length in range(1, 33) for part in (length, length - 1, 1)]
        self.assert_told(begins("a" * 64), 32, *told)
        self.assert_told(begins("a" * 32), 32, *told)
        self.assert_told(begins("a" * 31), 31, *told[:-3])
        self.assert_told(begins("a" * 5 + "b" * 59), 5, *told[:15])


class Goes(Asked):
    def test_the_row_itself_is_among_them(self):
        self.assert_told(goes("k"), 4, 1)
        self.assert_told(goes("ka"), 3, 2)
        self.assert_told(goes("kan"), 1, 4)
        self.assert_told(goes("ban"), 1, 0)

    def test_longer_readings_alone(self):
        self.assert_told(goes("b"), 1, 0)
        self.assert_told(goes("ba"), 1, 0)

    def test_the_empty_row(self):
        self.assert_told(goes(""), 5, 0)
        self.assertEqual(run(read(lines(128)), goes(""))[1], [128, 0])

    def test_none_before_all_between_behind_all(self):
        for row, before in (("a", 0), ("a" * 64, 0), ("bana", 1), ("c", 1), ("k!", 2), ("ka!", 4), ("kana", 5), ("kb", 5),
                            ("l", 5), ("z" * 64, 5)):
            self.assert_told(goes(row), 0, before)

    def test_in_an_empty_lexicon(self):
        for row in ("", "k", [0], [0x10FFFF]):
            self.assertEqual(run(goes(row)), [[0, 0]])

    def test_a_row_whose_last_character_is_the_last_of_all(self):
        last = "\U0010ffff"
        self.words = [("a", "x"), ("a" + last, "x"), ("a" + last, "y"), ("a" + last + last, "x"), ("b", "x"), (last, "x"),
                      (last + "a", "x"), (last * 2, "x"), (last * 32, "x")]
        self.assert_told(goes("a"), 4, 0)
        self.assert_told(goes("a" + last), 3, 1)
        self.assert_told(goes("a" + last * 2), 1, 3)
        self.assert_told(goes("a" + last * 3), 0, 4)
        self.assert_told(goes(last), 4, 5)
        self.assert_told(goes(last * 2), 2, 7)
        self.assert_told(goes(last * 32), 1, 8)
        self.assert_told(goes(last * 33), 0, 9)
        self.assert_told(goes(last * 64), 0, 9)


class Likely(Asked):
    def assert_ranks(self, row, *numbers):
        """The words that go on from a row, the likeliest first, none twice, none left."""
        calls = [likely(rank, row) for rank in range(len(numbers))]
        self.assertEqual(self.told(*calls), [[each] for each in numbers])
        for rank in (len(numbers), len(numbers) + 1, 128, 2097151):
            self.assert_told(likely(rank, row), -5)
        self.assertEqual(self.told(goes(row))[0][0], len(numbers))

    def test_by_costs(self):
        self.assert_ranks("k", 2, 3, 4, 1)
        self.assert_ranks("ka", 2, 3, 4)
        self.assert_ranks("kan", 4)
        self.assert_ranks("b", 0)

    def test_the_empty_row(self):
        self.assert_ranks("", 0, 2, 3, 4, 1)

    def test_none_at_all(self):
        for row in ("a", "kana", "kb", "l", [0], "k" * 64):
            self.assert_ranks(row)
        self.assertEqual(run(likely(0, ""), likely(0, "k"), likely(1, "")), [[-5], [-5], [-5]])

    def test_costs_as_numbers(self):
        self.words = [("a", "x", 0, 0, 100), ("aa", "x", 0, 0, 9), ("ab", "x", 0, 0, 65535), ("ac", "x", 0, 0, 10),
                      ("ad", "x", 0, 0, 0)]
        self.assert_ranks("a", 4, 1, 3, 0, 2)

    def test_readings_of_one_cost(self):
        self.words = [("a", "z", 0, 0, 5), ("aa", "y", 0, 0, 5), ("aab", "x", 0, 0, 5), ("ab", "w", 0, 0, 5),
                      ("ac", "v", 0, 0, 4)]
        self.assert_ranks("a", 4, 0, 1, 2, 3)
        self.assert_ranks("aa", 1, 2)

    def test_texts_of_one_reading_and_cost(self):
        self.words = [("a", "p", 9, 9, 5), ("a", "pq", 8, 0, 5), ("a", "q", 0, 8, 5), ("a", "b", 0, 0, 6), ("ab", "a", 0, 0, 5)]
        self.assert_ranks("a", 0, 1, 2, 4, 3)
        self.assert_ranks("", 0, 1, 2, 4, 3)

    def test_sorts_have_no_say(self):
        self.words = [("a", "x", 255, 255, 1), ("ab", "x", 0, 255, 1), ("ac", "x", 255, 0, 0), ("ad", "x", 0, 0, 1)]
        self.assert_ranks("a", 2, 0, 1, 3)

    def test_words_that_do_not_go_on_have_no_say(self):
        self.words = [("a", "x"), ("ab", "x", 0, 0, 9), ("abc", "x", 0, 0, 8), ("ac", "x"), ("b", "x")]
        self.assert_ranks("ab", 2, 1)

    def test_128_words(self):
        # Each cost is that of two words, far from one another.
        self.words = [("w%03d" % place, "x", 0, 0, place * 37 % 128 // 2) for place in range(128)]
        ranked = sorted(range(128), key=lambda place: (self.words[place][4], place))
        self.assert_ranks("", *ranked)
        self.assert_ranks("w", *ranked)
        self.assert_ranks("w1", *[place for place in ranked if place >= 100])


class HighCharacters(Asked):
    """Characters above FFFFH beside FFFDH: by UTF-16 those would stand first."""

    low, high = "\ufffd", "\U00010000"
    words = [(low, low, 1, 2, 7), (low, high, 3, 4, 7), (low + high, "x", 5, 6, 7), (high, low, 7, 8, 7), (high, high, 9, 10, 7),
             (high + low, "y", 11, 12, 6), (high + high, "z", 13, 14, 6)]

    def test_get(self):
        self.assert_told(get(1), 0, 3, 4, 7, 1, 0xFFFD, 1, 0x10000)
        self.assert_told(get(5), 0, 11, 12, 6, 2, 0x10000, 0xFFFD, 1, 0x79)

    def test_number(self):
        for place, word in enumerate(self.words):
            self.assert_told(number_of(*word[:2]), place)
        self.assert_told(number_of([0xD800, 0xDC00], self.low), -3)

    def test_find(self):
        self.assert_told(find(self.low), 2, 0)
        self.assert_told(find(self.low * 2), 0, 2)
        self.assert_told(find(self.low + self.high), 1, 2)
        self.assert_told(find("\uffff"), 0, 3)
        self.assert_told(find(self.high), 2, 3)
        self.assert_told(find("\U00010001"), 0, 7)
        self.assert_told(find("\ud7ff"), 0, 0)

    def test_begins(self):
        self.assert_told(begins(self.low + self.high + "a"), 2, 1, 0, 2, 2, 2, 1)
        self.assert_told(begins(self.high * 2), 2, 1, 3, 2, 2, 6, 1)
        self.assert_told(begins(self.high + self.low + self.low), 2, 1, 3, 2, 2, 5, 1)

    def test_goes(self):
        self.assert_told(goes(self.low), 3, 0)
        self.assert_told(goes(self.high), 4, 3)
        self.assert_told(goes(self.high + self.low), 1, 5)
        self.assert_told(goes("\uffff"), 0, 3)
        self.assert_told(goes("\U0010ffff"), 0, 7)

    def test_likely(self):
        told = self.told(*[likely(rank, "") for rank in range(8)])
        self.assertEqual(told, [[5], [6], [0], [1], [2], [3], [4], [-5]])
        told = self.told(*[likely(rank, self.high) for rank in range(5)])
        self.assertEqual(told, [[5], [6], [3], [4], [-5]])


class AsItIsThen(unittest.TestCase):
    """Words replaced, dropped, put in again, read, begun anew: the calls tell of the lexicon as it is then."""

    # get behind the last is among them, so that a word too many would be told.
    ASKED = [get(0), get(1), get(2), number_of("a", "p"), number_of("ab", "q"), find("a"), find("ab"), begins("ab"),
             goes("a"), likely(0, "a"), likely(1, "a")]
    NONE = [[-4], [-4], [-4], [-5], [-5], [0, 0], [0, 0], [0], [0, 0], [-5], [-5]]
    AP, ABQ = [1, 0x61, 1, 0x70], [2, 0x61, 0x62, 1, 0x71]
    BOTH = [[0, 1, 2, 9, *AP], [0, 3, 4, 5, *ABQ], [-4], [0], [1], [1, 0], [1, 1], [2, 1, 0, 1, 2, 1, 1], [2, 0], [1], [0]]
    PUT_BOTH = [put("a", "p", 1, 2, 9), put("ab", "q", 3, 4, 5)]

    def assert_then(self, calls, expected):
        told = run(*self.PUT_BOTH, *self.ASKED, *calls, *self.ASKED)
        first = len(self.PUT_BOTH)
        self.assertEqual(told[first:first + len(self.ASKED)], self.BOTH)
        self.assertEqual(told[-len(self.ASKED):], expected)

    def test_nothing_between(self):
        self.assert_then([], self.BOTH)
        self.assert_then([put("b", "x"), drop(2)], self.BOTH)
        self.assert_then([drop(1), self.PUT_BOTH[1]], self.BOTH)
        self.assert_then([drop(0), drop(0), *self.PUT_BOTH[::-1]], self.BOTH)

    def test_refused_calls_between(self):
        refused = [put("a", "p", 256), put("", "x"), drop(2), read("no"), get(2), find("k" * 65), goes([0xD800])]
        self.assert_then(refused, self.BOTH)

    def test_replaced(self):
        expected = [[0, 7, 8, 4, *self.AP], *self.BOTH[1:9], [0], [1]]
        self.assert_then([put("a", "p", 7, 8, 4)], expected)
        self.assert_then([put("a", "p", 0, 0, 0), put("a", "p", 7, 8, 4)], expected)

    def test_replaced_by_the_same_cost(self):
        self.assert_then([put("a", "p", 255, 0, 9)], [[0, 255, 0, 9, *self.AP], *self.BOTH[1:]])

    def test_replaced_among_words_of_its_reading(self):
        calls = [put("a", "r", 0, 0, 8), put("a", "p", 5, 6, 7)]
        expected = [[0, 5, 6, 7, *self.AP], [0, 0, 0, 8, 1, 0x61, 1, 0x72], [0, 3, 4, 5, *self.ABQ], [0], [2], [2, 0], [1, 2],
                    [2, 1, 0, 2, 2, 2, 1], [3, 0], [2], [0]]
        self.assert_then(calls, expected)
        self.assert_then([*calls, put("a", "p", 5, 6, 9), put("a", "p", 5, 6, 7)], expected)

    def test_dropped(self):
        expected = [[0, 3, 4, 5, *self.ABQ], [-4], [-4], [-5], [0], [0, 0], [1, 0], [1, 2, 0, 1], [1, 0], [0], [-5]]
        self.assert_then([drop(0)], expected)
        expected = [[0, 1, 2, 9, *self.AP], [-4], [-4], [0], [-5], [1, 0], [0, 1], [1, 1, 0, 1], [1, 0], [0], [-5]]
        self.assert_then([drop(1)], expected)
        self.assert_then([drop(1), drop(0)], self.NONE)

    def test_dropped_and_put_in_again(self):
        self.assert_then([drop(0), put("a", "p", 7, 8, 4)], [[0, 7, 8, 4, *self.AP], *self.BOTH[1:9], [0], [1]])

    def test_read(self):
        text = "ab q 3 4 5\na p 1 2 9\n"
        self.assert_then([read(text)], self.BOTH)
        self.assert_then([read("b x 0 0 0\n"), read(text)], self.BOTH)
        self.assert_then([read("")], self.NONE)
        self.assert_then([read("ab q 3 4 5\na p 7 8 4\n")], [[0, 7, 8, 4, *self.AP], *self.BOTH[1:9], [0], [1]])

    def test_begun_anew(self):
        self.assert_then([BEGIN], self.NONE)
        self.assert_then([BEGIN, *self.PUT_BOTH], self.BOTH)

    def test_the_129th_word(self):
        told = run(read(lines(128)), put("a", "p"), find("a"), number_of("a", "p"), goes(""), put("w00005", "x", 9, 8, 7),
                   get(5), likely(127, ""), drop(0), put("a", "p"), find("a"), goes(""))
        self.assertEqual(told[1:5], [[-6], [0, 0], [-5], [128, 0]])
        self.assertEqual(told[5:8], [[5], [0, 9, 8, 7, 6, *b"w00005", 1, *b"x"], [5]])
        self.assertEqual(told[8:], [[0], [0], [1, 0], [128, 0]])


if __name__ == "__main__":
    unittest.main()
