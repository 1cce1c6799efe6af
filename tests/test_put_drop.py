"""The calls begin, count, put and drop."""

import unittest

from helper import BEGIN, COUNT, WRITE, drop, line, lines, put, read, run, written

STANDING = [("a", "x", 1, 2, 3), ("b", "x", 4, 5, 6)]
STANDING_TEXT = "a x 1 2 3\nb x 4 5 6\n"
FULL = read(lines(128))


class Begin(unittest.TestCase):
    def test_a_new_lexicon_has_no_words(self):
        self.assertEqual(run(COUNT), [[0]])
        self.assertEqual(run(WRITE), [[0]])

    def test_begin_answers_0_and_takes_all_out(self):
        calls = [put(*word) for word in STANDING]
        self.assertEqual(run(BEGIN, *calls, COUNT, BEGIN, COUNT, WRITE), [[0], [0], [1], [2], [0], [0], [0]])

    def test_after_begin_the_words_are_new(self):
        self.assertEqual(run(FULL, BEGIN, put("a", "x"), WRITE)[-2:], [[0], written(line("a"))])


class Put(unittest.TestCase):
    def assert_refused(self, refused):
        """A put is refused by -3 and changes nothing."""
        calls = [put(*word) for word in STANDING]
        told = run(*calls, refused, COUNT, WRITE)
        self.assertEqual(told[2:], [[-3], [2], written(STANDING_TEXT)])

    def assert_taken(self, *word):
        self.assertEqual(run(put(*word), COUNT), [[0], [1]])

    def test_left_right_cost_reading_text_stand_in_this_order(self):
        self.assertEqual(run([5, 1, 2, 3, 2, 107, 97, 1, 75], WRITE), [[0], written("ka K 1 2 3\n")])

    def test_the_word_moves_by_its_new_cost(self):
        calls = [put("a", "p", 0, 0, 10), put("a", "q", 0, 0, 20), put("a", "r", 0, 0, 30)]
        told = run(*calls, put("a", "p", 8, 9, 25), COUNT, WRITE)
        self.assertEqual(told[3:], [[1], [3], written("a q 0 0 20\na p 8 9 25\na r 0 0 30\n")])
        told = run(*calls, put("a", "r", 0, 0, 5), COUNT, WRITE)
        self.assertEqual(told[3:], [[0], [3], written("a r 0 0 5\na p 0 0 10\na q 0 0 20\n")])

    def test_the_same_word_again_stays(self):
        self.assertEqual(run(put("a", "x", 1, 2, 3), put("a", "x", 1, 2, 3), COUNT), [[0], [0], [1]])

    def test_the_latest_sorts_stand(self):
        self.assertEqual(run(put("a", "x", 1, 2, 3), put("a", "x", 4, 5, 3), WRITE)[-1], written("a x 4 5 3\n"))

    def test_other_words_are_not_replaced(self):
        told = run(put("a", "bc"), put("ab", "c"), put("a", "b"), put("b", "a"), COUNT)
        self.assertEqual(told, [[0], [1], [0], [3], [4]])

    def test_lengths(self):
        self.assert_taken("r" * 32, "t" * 32)
        for length in (0, 33, 64, 65, 80):
            self.assert_refused(put("r" * length, "t"))
            self.assert_refused(put("r", "t" * length))
            self.assert_refused(put("r" * length, "t" * length))

    def test_characters_that_may_not_stand_in_a_word(self):
        wrong = [*range(0, 0x21), 0x7F, 0xD800, 0xDABC, 0xDBFF, 0xDC00, 0xDFFF, 0x110000, 0x110001, 2097151]
        for number in wrong:
            self.assert_refused(put([number], "t"))
            self.assert_refused(put("r", [number]))
            self.assert_refused(put([0x61, number, 0x62], "t"))
            self.assert_refused(put("r", [0x61] * 31 + [number]))

    def test_characters_beside_those(self):
        for number in (0x21, 0x7E, 0x80, 0xA0, 0xD7FF, 0xE000, 0xFEFF, 0xFFFE, 0xFFFF, 0x10000, 0x10FFFF):
            self.assert_taken([number], "t")
            self.assert_taken("r", [number])

    def test_sorts_and_costs(self):
        self.assert_taken("r", "t", 255, 255, 65535)
        for number in (256, 257, 512, 65536, 2097151):
            self.assert_refused(put("r", "t", number, 0, 0))
            self.assert_refused(put("r", "t", 0, number, 0))
        for number in (65536, 65537, 131072, 2097151):
            self.assert_refused(put("r", "t", 0, 0, number))

    def test_refused_where_it_would_replace(self):
        self.assert_refused(put("a", "x", 256, 0, 0))
        self.assert_refused(put("a", "x", 0, 256, 0))
        self.assert_refused(put("a", "x", 0, 0, 65536))

    def test_the_129th_word(self):
        told = run(FULL, put("a", "x"), COUNT, WRITE)
        self.assertEqual(told, [[128], [-6], [128], written(lines(128))])

    def test_a_replaced_word_where_there_are_128(self):
        told = run(FULL, put("w00127", "x", 1, 2, 3), COUNT, WRITE)
        text = lines(127) + "w00127 x 1 2 3\n"
        self.assertEqual(told, [[128], [127], [128], written(text)])

    def test_a_word_that_is_none_where_there_are_128(self):
        self.assertEqual(run(FULL, put("", "x"), put("a", "x", 256))[1:], [[-3], [-3]])

    def test_room_again_behind_a_drop(self):
        self.assertEqual(run(FULL, drop(0), put("z", "x"), put("zz", "x"), COUNT)[1:], [[0], [127], [-6], [128]])

    def test_128_words_put_in_one_by_one(self):
        calls = [put("w%05d" % number, "x") for number in range(127, -1, -1)]
        told = run(*calls, put("a", "x"), WRITE)
        self.assertEqual(told, [[0]] * 128 + [[-6], written(lines(128))])


class Drop(unittest.TestCase):
    def drop_of_three(self, number):
        return run(read("a x 0 0 0\nb x 0 0 0\nc x 0 0 0\n"), drop(number), COUNT, WRITE)[1:]

    def test_the_first(self):
        self.assertEqual(self.drop_of_three(0), [[0], [2], written("b x 0 0 0\nc x 0 0 0\n")])

    def test_one_between(self):
        self.assertEqual(self.drop_of_three(1), [[0], [2], written("a x 0 0 0\nc x 0 0 0\n")])

    def test_the_last(self):
        self.assertEqual(self.drop_of_three(2), [[0], [2], written("a x 0 0 0\nb x 0 0 0\n")])

    def test_no_word(self):
        for number in (3, 4, 128, 2097151):
            self.assertEqual(self.drop_of_three(number), [[-4], [3], written("a x 0 0 0\nb x 0 0 0\nc x 0 0 0\n")])

    def test_none_is_left(self):
        self.assertEqual(run(drop(0)), [[-4]])
        self.assertEqual(run(put("a", "x"), drop(0), drop(0), COUNT, WRITE), [[0], [0], [-4], [0], [0]])

    def test_of_one_reading_by_its_number(self):
        calls = [put("a", "p", 0, 0, 9), put("a", "q", 0, 0, 8), put("a", "p", 0, 0, 7)]
        self.assertEqual(run(*calls, drop(1), WRITE)[-1], written("a p 0 0 7\n"))


if __name__ == "__main__":
    unittest.main()
