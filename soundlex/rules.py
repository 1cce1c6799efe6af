"""What may stand in a lexicon: characters, rows of them, words."""

FIRST_SURROGATE = 0xD800
LAST_SURROGATE = 0xDFFF
CHARACTERS_END = 0x110000
BLANK = 0x20
DELETE = 0x7F

MOST_CHARACTERS = 32
MOST_SORT = 255
MOST_COST = 65535
MOST_WORDS = 128


class Word:
    """A reading and a text (lists of characters), two sorts and a cost; maybe too large ones."""

    def __init__(self, reading, text, left, right, cost):
        self.reading = reading
        self.text = text
        self.left = left
        self.right = right
        self.cost = cost


def is_character(number):
    """Whether a number is a character."""
    if number >= FIRST_SURROGATE and number <= LAST_SURROGATE:
        return False
    return number < CHARACTERS_END


def all_characters(row):
    """Whether a row is of characters only, be they such as may stand in a word or not."""
    return all([is_character(number) for number in row])


def may_stand(number):
    """Whether a number is a character that may stand in a word."""
    return is_character(number) and number > BLANK and number != DELETE


def all_may_stand(row):
    """Whether a row is of such characters only."""
    return all([may_stand(number) for number in row])


def is_row(row):
    """Whether a row may be the reading or the text of a word."""
    return len(row) >= 1 and len(row) <= MOST_CHARACTERS and all_may_stand(row)


def is_word(word):
    """Whether the parts of a word are such as a word has."""
    if not is_row(word.reading) or not is_row(word.text):
        return False
    if word.left > MOST_SORT or word.right > MOST_SORT:
        return False
    return word.cost <= MOST_COST


def is_same(word, other):
    """Whether two words have the same reading and text, so that one lexicon has only one of them."""
    return word.reading == other.reading and word.text == other.text


def order_of(word):
    """What words are put in order by."""
    return (word.reading, word.cost, word.text)


def likely_order_of(word):
    """What words are put in order by where the likeliest is to be first."""
    return (word.cost, word.reading, word.text)
