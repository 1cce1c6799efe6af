"""The calls read and write: a lexicon's text."""

import itertools
import unittest

from helper import COUNT, PlainLexicon, WRITE, line, lines, octets, plain_word, put, read, run, written

GOOD = "a x 1 2 3\n"


class ReadTest(unittest.TestCase):
    def assert_fault(self, text, at, kind):
        """A text is refused with this fault; nothing changes."""
        told = run(put("k", "K", 1, 2, 3), read(text), COUNT, WRITE)
        self.assertEqual(told[1:], [[-2, at, kind], [1], written("k K 1 2 3\n")], text)

    def assert_line(self, text, kind):
        """A line has a fault of this kind, wherever it stands."""
        data = octets(text)
        self.assert_fault(data, 0, kind)
        self.assert_fault(octets(GOOD) + data, 1, kind)
        self.assert_fault(data + octets(GOOD), 0, kind)
        self.assert_fault(octets(lines(5)) + data + octets("no line\n"), 5, kind)

    def assert_taken(self, text, rewritten=None):
        """A text of one line is taken, and written again as told."""
        told = run(read(text), WRITE)
        self.assertEqual(told, [[1], written(text if rewritten is None else rewritten)])


class Read(ReadTest):
    def test_how_many_words(self):
        self.assertEqual(run(read(GOOD), COUNT), [[1], [1]])
        self.assertEqual(run(read(GOOD + "b x 1 2 3\n"), COUNT), [[2], [2]])

    def test_an_empty_text(self):
        self.assertEqual(run(put("k", "K"), read(""), COUNT, WRITE), [[0], [0], [0], [0]])

    def test_takes_the_place_of_all(self):
        told = run(put("k", "K"), put("a", "x", 9, 9, 9), read(GOOD), COUNT, WRITE)
        self.assertEqual(told[2:], [[1], [1], written(GOOD)])

    def test_into_a_full_lexicon(self):
        told = run(read(lines(128)), read(lines(128, 500)), WRITE)
        self.assertEqual(told, [[128], [128], written(lines(128, 500))])

    def test_128_and_129_lines(self):
        self.assertEqual(run(read(lines(128)), COUNT), [[128], [128]])
        self.assert_fault(lines(129), 128, 4)
        self.assert_fault(lines(300), 128, 4)
        self.assert_fault(lines(129) + "no line\n", 128, 4)

    def test_more_than_65536_bytes(self):
        # Longer than the interface hands in; the calls' own limit all the same.
        told = run(put("k", "K"), read("a" * 65537), COUNT)
        self.assertEqual(told[1:], [[-1], [1]])
        self.assertEqual(run(read("a" * 65536)), [[-2, 0, 1]])

    def test_the_largest_values(self):
        self.assert_taken(line("r" * 32, "t" * 32, 255, 255, 65535))
        self.assert_taken(line("\U0010ffff" * 32, "\u3042" * 32))


class NoLine(ReadTest):
    """Faults of kind 1."""

    def test_no_end(self):
        self.assert_fault("a x 1 2 3", 0, 1)
        self.assert_fault(GOOD + "b x 1 2 3", 1, 1)
        self.assert_fault(GOOD + " ", 1, 1)
        self.assert_fault(lines(128) + "b x 1 2 3", 128, 1)
        self.assert_fault(lines(128) + "b", 128, 1)

    def test_empty_line(self):
        self.assert_line("\n", 1)
        self.assert_fault(GOOD + "\n", 1, 1)
        self.assert_fault("\n\n\n", 0, 1)

    def test_blanks(self):
        for text in ("a  x 1 2 3", "a x 1 2  3", " a x 1 2 3", "a x 1 2 3 ", " ", "     ", "    ", "a x  2 3", " x 1 2 3"):
            self.assert_line(text + "\n", 1)

    def test_more_or_fewer_parts(self):
        for text in ("a", "a x", "a x 1", "a x 1 2", "a x 1 2 3 4", "a x 1 2 3 4 5 6", "a x y 1 2 3"):
            self.assert_line(text + "\n", 1)

    def test_empty_parts(self):
        for text in (" x 1 2 3", "a  1 2 3", "a x  2 3", "a x 1  3", "a x 1 2 "):
            self.assert_line(text + "\n", 1)

    def test_numbers_that_are_none(self):
        for number in ("07", "00", "01", "000", "0255", "-1", "+1", "-0", "1.", "1.0", "1e2", "0x1", "a", "1_0", "1,0"):
            self.assert_line(f"a x {number} 2 3\n", 1)
            self.assert_line(f"a x 1 {number} 3\n", 1)
            self.assert_line(f"a x 1 2 {number}\n", 1)

    def test_digits_of_other_scripts_are_none(self):
        for sign in ("\u0663", "\uff13", "\u00b2", "/", ":"):
            self.assert_line(f"a x 1 2 {sign}\n", 1)
            self.assert_line(f"a x 1 2 1{sign}\n", 1)

    def test_0_is_a_number(self):
        self.assert_taken("a x 0 0 0\n")
        self.assert_taken("a x 10 100 1000\n")

    def test_characters_that_may_not_stand_there(self):
        for number in [*range(0, 10), *range(11, 32), 127]:
            sign = chr(number)
            self.assert_line(f"a{sign} x 1 2 3\n", 1)
            self.assert_line(f"{sign} x 1 2 3\n", 1)
            self.assert_line(f"a {sign}x 1 2 3\n", 1)
            self.assert_line(f"a x 1{sign} 2 3\n", 1)
            self.assert_line(f"a x 1 2 3{sign}\n", 1)

    def test_characters_beside_those(self):
        for sign in "!~\x80\x85\xa0\u2028\u3000\ufeff\ufffe\uffff\U0010ffff":
            self.assert_taken(f"{sign} {sign}{sign} 1 2 3\n")

    def test_an_end_within_a_word(self):
        self.assert_fault("a\nx 1 2 3\n", 0, 1)
        self.assert_fault(GOOD + "b x 1\n2 3\n", 1, 1)


class StrictUtf8(ReadTest):
    """Bytes that are no UTF-8 are a fault of kind 1."""

    def assert_no_utf8(self, data):
        for text in (b"%s x 1 2 3\n", b"a%s x 1 2 3\n", b"a %s 1 2 3\n", b"a x 1 2 %s\n", b"a x 1 2 3%s\n", b"%s\n"):
            self.assert_line(text % data, 1)

    def test_not_the_shortest_form(self):
        for data in (b"\xc0\x80", b"\xc0\xa1", b"\xc1\xa1", b"\xc1\xbf", b"\xe0\x80\xa1", b"\xe0\x81\xa1", b"\xe0\x9f\xbf",
                     b"\xf0\x80\x80\xa1", b"\xf0\x80\x82\xa1", b"\xf0\x8f\xbf\xbf"):
            self.assert_no_utf8(data)

    def test_blank_and_end_in_longer_forms(self):
        self.assert_line(b"a\xc0\xa0x 1 2 3\n", 1)
        self.assert_fault(b"a x 1 2 3\xc0\x8a", 0, 1)

    def test_no_characters(self):
        for data in (b"\xed\xa0\x80", b"\xed\xad\xbf", b"\xed\xae\x80", b"\xed\xbf\xbf", b"\xed\xa0\x80\xed\xb0\x80"):
            self.assert_no_utf8(data)

    def test_above_the_last_character(self):
        for data in (b"\xf4\x90\x80\x80", b"\xf4\xbf\xbf\xbf", b"\xf5\x80\x80\x80", b"\xf7\xbf\xbf\xbf"):
            self.assert_no_utf8(data)

    def test_cut_off(self):
        for data in (b"\xc2", b"\xdf", b"\xe3", b"\xe3\x81", b"\xef\xbf", b"\xf0", b"\xf0\x90", b"\xf0\x90\x80", b"\xf4\x8f\xbf"):
            self.assert_no_utf8(data)
            self.assert_fault(data, 0, 1)
            self.assert_fault(octets(GOOD) + list(data), 1, 1)

    def test_cut_off_by_a_character(self):
        for data in (b"\xc2b", b"\xe3\x81b", b"\xe3b\x81", b"\xf0\x90\x80b", b"\xc2\xc2\xa1", b"\xe3\x81\xe3\x81\x82", b"\xc2\xc0"):
            self.assert_no_utf8(data)

    def test_bytes_that_begin_nothing(self):
        for byte in [*range(0x80, 0xC2), *range(0xF5, 0x100)]:
            self.assert_no_utf8(bytes([byte]))
        for data in (b"\xf8\x88\x80\x80\x80", b"\xfc\x84\x80\x80\x80\x80", b"\xfe", b"\xff", b"\xc2\xa1\xa1"):
            self.assert_no_utf8(data)

    def test_first_and_last_of_each_length(self):
        for sign in "!~\x80\u07ff\u0800\u0fff\u1000\ucfff\ud000\ud7ff\ue000\uffff\U00010000\U0003ffff\U00040000\U00100000\U0010ffff":
            self.assert_taken(f"{sign}a x{sign} 1 2 3\n")

    def assert_as_python(self, data):
        line_read = octets("a") + list(data) + octets(" x 1 2 3\n")
        expected = [-2, 0, 1] if plain_word(line_read[:-1]) is None else [1]
        self.assertEqual(run(read(line_read)), [expected], bytes(data))

    def test_all_pairs_of_bytes_as_by_python(self):
        for data in itertools.product(range(0x80, 0x100), range(0x7E, 0x100)):
            self.assert_as_python(data)

    def test_longer_rows_of_bytes_as_by_python(self):
        ends = (0x7E, 0x80, 0xBF, 0xC0)
        seconds = (0x7E, 0x80, 0x8F, 0x90, 0x9F, 0xA0, 0xBF, 0xC0)
        for data in itertools.product(range(0xE0, 0x100), seconds, ends):
            self.assert_as_python(data)
        for data in itertools.product(range(0xE0, 0x100), seconds, ends, ends):
            self.assert_as_python(data)


class Limits(ReadTest):
    """Faults of kind 2."""

    def test_more_than_32_characters(self):
        for sign in ("r", "\xe9", "\u3042", "\U0001f600"):
            self.assert_taken(line(sign * 32, sign * 32))
            for length in (33, 34, 65, 1000):
                self.assert_line(line(sign * length), 2)
                self.assert_line(line("a", sign * length), 2)

    def test_sorts_above_255(self):
        for number in (256, 999, 1000, 65536, 4294967296, 18446744073709551616):
            self.assert_line(line("a", "x", number), 2)
            self.assert_line(line("a", "x", 0, number), 2)

    def test_costs_above_65535(self):
        for number in (65536, 65540, 99999, 100000, 655350, 4294967296, 18446744073709551616):
            self.assert_line(line("a", "x", 0, 0, number), 2)

    def test_numbers_of_very_many_digits(self):
        for digits in ("1" * 5000, "1" + "0" * 40000):
            for text in ("a x %s 0 0\n", "a x 0 %s 0\n", "a x 0 0 %s\n"):
                self.assert_fault(text % digits, 0, 2)
        self.assert_fault("a x 0 0 0" + "1" * 5000 + "\n", 0, 1)


class Twice(ReadTest):
    """Faults of kind 3."""

    def test_a_line_before_has_it(self):
        self.assert_fault(GOOD + GOOD, 1, 3)
        self.assert_fault(GOOD + "a x 3 2 1\n", 1, 3)
        self.assert_fault(GOOD + "b x 0 0 0\nb y 0 0 0\na x 0 0 9\n", 3, 3)

    def test_other_words(self):
        text = "a bc 0 0 0\na x 0 0 0\na y 0 0 0\nab c 0 0 0\nb x 0 0 0\nx a 0 0 0\n"
        self.assertEqual(run(read(text), WRITE), [[6], written(text)])

    def test_words_that_stood_before_have_no_say(self):
        self.assertEqual(run(read(GOOD), read(GOOD), WRITE), [[1], [1], written(GOOD)])


class WhichFault(ReadTest):
    def test_the_first_line_that_is_wrong(self):
        self.assert_fault(GOOD + line("r" * 33) + "no line\n", 1, 2)
        self.assert_fault(GOOD + GOOD + "no line\n", 1, 3)
        self.assert_fault(GOOD + "b x 0 0 256\nc x 0 256 0\n\n", 2, 2)
        self.assert_fault(lines(100) + "b x 0 0 00\n" + lines(100), 100, 1)

    def test_of_one_line_the_least_kind(self):
        self.assert_fault(line("r" * 33, "x", "07"), 0, 1)
        self.assert_fault(line("a", "x", 256, 0, "65536 "), 0, 1)
        self.assert_fault("a x 256 0 0", 0, 1)
        self.assert_fault(b"a" * 33 + b"\xff x 0 0 0\n", 0, 1)
        self.assert_fault(GOOD + "a x 1 2 03\n", 1, 1)
        self.assert_fault(GOOD + "a x 1 2 3", 1, 1)
        self.assert_fault(GOOD + "a x 256 2 3\n", 1, 2)
        self.assert_fault(GOOD + "a x 1 2 65536\n", 1, 2)

    def test_of_the_129th_line(self):
        full = lines(128)
        self.assert_fault(full + "\n", 128, 1)
        self.assert_fault(full + "w00000 x 00 0 0\n", 128, 1)
        self.assert_fault(full + "w00000 x 256 0 0\n", 128, 2)
        self.assert_fault(full + line("r" * 33), 128, 2)
        self.assert_fault(full + "w00000 x 1 1 1\n", 128, 3)
        self.assert_fault(full + line("a"), 128, 4)

    def test_the_128th_line(self):
        self.assert_fault(lines(127) + "w00000 x 1 1 1\n" + line("z"), 127, 3)
        self.assert_fault(lines(127) + "\n" + line("z"), 127, 1)

    def test_a_fault_leaves_a_full_lexicon(self):
        told = run(read(lines(128)), read(lines(129, 500)), read("\n"), COUNT, WRITE)
        self.assertEqual(told, [[128], [-2, 128, 4], [-2, 0, 1], [128], written(lines(128))])


class Write(unittest.TestCase):
    TEXT = "a p 0 0 0\na q 255 255 1\nb p 10 9 65535\n\u3042 \U0001f600 1 2 3\n\ufffd a 0 0 0\n\U00010000 a 0 0 0\n"

    def test_the_lines_by_the_order_of_words(self):
        rows = self.TEXT.splitlines(keepends=True)
        for some in (rows, rows[::-1], rows[3:] + rows[:3], rows[::2] + rows[1::2]):
            self.assertEqual(run(read("".join(some)), WRITE), [[6], written(self.TEXT)])

    def test_how_many_bytes(self):
        told = run(put("\u3042", "\U00010000", 1, 20, 300), WRITE)[1]
        self.assertEqual(told[:9], [18, 0xE3, 0x81, 0x82, 0x20, 0xF0, 0x90, 0x80, 0x80])
        self.assertEqual(told[9:], list(b" 1 20 300\n"))

    def test_written_and_read_again(self):
        told = run(read(self.TEXT), read(self.TEXT), WRITE, COUNT, WRITE)
        self.assertEqual(told, [[6], [6], written(self.TEXT), [6], written(self.TEXT)])

    def test_read_and_put_make_one_lexicon(self):
        puts = []
        for text in self.TEXT.splitlines()[::-1]:
            reading, writing, left, right, cost = text.split(" ")
            puts.append(put(reading, writing, int(left), int(right), int(cost)))
        self.assertEqual(run(*puts, WRITE)[-1], written(self.TEXT))

    def test_written_between_changes(self):
        told = run(WRITE, put("b", "x"), WRITE, put("a", "x"), WRITE, WRITE, [6, 1], WRITE, read(""), WRITE,
                   put("c", "x"), WRITE, [1], WRITE)
        texts = [told[at] for at in (0, 2, 4, 5, 7, 9, 11, 13)]
        expected = ["", line("b"), line("a") + line("b"), line("a") + line("b"), line("a"), "", line("c"), ""]
        self.assertEqual(texts, [written(text) for text in expected])

    def test_refused_calls_between(self):
        told = run(put("a", "x"), WRITE, put("", "x"), WRITE, [6, 1], WRITE, read("\n"), WRITE)
        self.assertEqual([told[at] for at in (1, 3, 5, 7)], [written(line("a"))] * 4)

    def test_the_largest_text(self):
        words = [line(chr(0x10000 + number) + "\U0010ffff" * 31, "\U0010ffff" * 32, 255, 255, 65535) for number in range(128)]
        text = "".join(words)
        self.assertEqual(run(read("".join(words[::-1])), WRITE), [[128], written(text)])
        self.assertEqual(PlainLexicon().read(octets(text)), [128])


if __name__ == "__main__":
    unittest.main()
