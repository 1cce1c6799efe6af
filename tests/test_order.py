"""The order of words, as write and put tell it."""

import itertools
import unittest

from helper import COUNT, WRITE, line, put, read, run, written


def written_after(words):
    """The text of a lexicon into which these words were put."""
    return run(*[put(*word) for word in words], WRITE)[-1]


class Order(unittest.TestCase):
    def assert_order(self, words):
        """Words, handed in in whatever order, are numbered and written in this one."""
        text = "".join([line(*word) for word in words])
        for some in itertools.permutations(words):
            self.assertEqual(written_after(some), written(text))
            told = "".join([line(*word) for word in some])
            self.assertEqual(run(read(told), WRITE)[-1], written(text))

    def test_readings_by_the_first_place_where_they_differ(self):
        self.assert_order([("ab", "x"), ("ac", "x"), ("b", "x"), ("ba", "x")])

    def test_a_beginning_stands_before_what_it_begins(self):
        self.assert_order([("k", "x"), ("ka", "x"), ("kan", "x"), ("kb", "x")])

    def test_readings_go_before_costs(self):
        self.assert_order([("a", "x", 0, 0, 65535), ("ab", "x", 0, 0, 9), ("b", "x", 0, 0, 0)])

    def test_costs_of_one_reading_as_numbers(self):
        self.assert_order([("a", "z", 0, 0, 2), ("a", "y", 0, 0, 10), ("a", "x", 0, 0, 100)])

    def test_texts_of_one_reading_and_cost(self):
        self.assert_order([("a", "p", 9, 9, 5), ("a", "pq", 0, 1, 5), ("a", "q", 0, 0, 5)])

    def test_sorts_have_no_say(self):
        self.assert_order([("a", "p", 255, 0, 5), ("a", "q", 0, 255, 5), ("a", "r", 7, 7, 5)])

    def test_characters_by_their_numbers(self):
        self.assert_order([("~", "x"), ("\x80", "x"), ("\u3042", "x"), ("\ufffd", "x"), ("\U00010000", "x")])
        self.assert_order([("a", "\ud7ff"), ("a", "\ue000"), ("a", "\ufffd"), ("a", "\U0010ffff")])

    def test_number_of_a_word_is_its_place(self):
        calls = [put("b", "x"), put("a", "x"), put("c", "x"), put("b", "w"), put("b", "y"), put("d", "x")]
        self.assertEqual(run(*calls, COUNT), [[0], [0], [2], [1], [3], [5], [6]])


if __name__ == "__main__":
    unittest.main()
