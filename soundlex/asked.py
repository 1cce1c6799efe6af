"""What is asked of words that stand in order, by rows of characters."""

from soundlex.rules import likely_order_of


def has_beginning(row, beginning):
    """Whether a row begins with another one, or is that one."""
    return row[:len(beginning)] == beginning


def count_before(words, row):
    """How many words' readings come before a row."""
    return len([word for word in words if word.reading < row])


def count_of_reading(words, row):
    """How many words have a row as their reading."""
    return len([word for word in words if word.reading == row])


def numbers_going_on(words, row):
    """The numbers of the words whose reading a row is a beginning of, itself too."""
    return [number for number, word in enumerate(words) if has_beginning(word.reading, row)]


def numbers_by_likelihood(words, row):
    """The numbers of the words that go on from a row, the likeliest one first."""
    return sorted(numbers_going_on(words, row), key=lambda number: likely_order_of(words[number]))


def lengths_beginning(words, row):
    """[length, first number, how many] of each length, rising, of readings that begin a row."""
    lengths = []
    # Such readings of one length are the same, and a shorter one stands before a longer one:
    # so their words come here length by length.
    for number, word in enumerate(words):
        if not has_beginning(row, word.reading):
            continue
        length = len(word.reading)
        if len(lengths) > 0 and lengths[-1][0] == length:
            lengths[-1][2] += 1
        else:
            lengths.append([length, number, 1])
    return lengths
