"""The lines of a lexicon's text: each is a word."""

from soundlex.rules import BLANK, MOST_WORDS, Word, all_may_stand, is_same, is_word
from soundlex.utf8 import decoded, encoded

LINE_END = 0x0A
DIGIT_0 = 0x30
DIGIT_9 = 0x39
PARTS = 5
# One more than the largest number that a line may have.
TOO_LARGE = 65536

NO_FAULT = 0
NO_LINE = 1
BEYOND_LIMITS = 2
SAME_AS_BEFORE = 3
TOO_MANY = 4


def lines_of(data):
    """The lines of a text of bytes, each with its 0AH; the last may lack it."""
    lines = []
    line = []
    for byte in data:
        line.append(byte)
        if byte == LINE_END:
            lines.append(line)
            line = []
    if len(line) > 0:
        lines.append(line)
    return lines


def parts_of(row):
    """What stands before, between and behind the blanks of a row of characters."""
    parts = []
    part = []
    for character in row:
        if character == BLANK:
            parts.append(part)
            part = []
        else:
            part.append(character)
    parts.append(part)
    return parts


def number_in(part):
    """The number that a part tells, TOO_LARGE for all above; None if it tells none."""
    if len(part) == 0:
        return None
    if part[0] == DIGIT_0 and len(part) > 1:
        return None
    number = 0
    for digit in part:
        if digit < DIGIT_0 or digit > DIGIT_9:
            return None
        # Held down so that a long row of digits is gone through in few steps.
        number = min(number * 10 + digit - DIGIT_0, TOO_LARGE)
    return number


def is_filled(part):
    """Whether a part may be a reading or a text, but for its length."""
    return len(part) > 0 and all_may_stand(part)


def word_in(line):
    """The word that a line tells, maybe a too large one; None if it is no such line."""
    if line[-1] != LINE_END:
        return None
    row = decoded(line[:-1])
    if row is None:
        return None
    parts = parts_of(row)
    if len(parts) != PARTS:
        return None
    if not is_filled(parts[0]) or not is_filled(parts[1]):
        return None
    numbers = [number_in(part) for part in parts[2:]]
    if None in numbers:
        return None
    return Word(parts[0], parts[1], numbers[0], numbers[1], numbers[2])


def fault_kind(word, before):
    """The least kind of fault of a line with this word, behind lines with the words before."""
    if word is None:
        return NO_LINE
    if not is_word(word):
        return BEYOND_LIMITS
    if any([is_same(word, other) for other in before]):
        return SAME_AS_BEFORE
    if len(before) >= MOST_WORDS:
        return TOO_MANY
    return NO_FAULT


def digits_of(number):
    """The bytes of a number in decimal."""
    return [ord(digit) for digit in str(number)]


def line_of(word):
    """The bytes of a word's line."""
    line = encoded(word.reading) + [BLANK] + encoded(word.text)
    for number in (word.left, word.right, word.cost):
        line.append(BLANK)
        line.extend(digits_of(number))
    line.append(LINE_END)
    return line


def text_of(words):
    """The bytes of the lines of words, in the order in which these stand."""
    data = []
    for word in words:
        data.extend(line_of(word))
    return data
