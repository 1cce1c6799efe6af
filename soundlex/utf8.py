"""Characters as bytes, by strict UTF-8."""

from soundlex.rules import is_character

# The least character that has no shorter form, for each count of bytes.
LEAST_OF_LENGTH = (0, 0, 0x80, 0x800, 0x10000)


def length_told(lead):
    """How many bytes a character has whose first byte is this one; 0 if none begins so."""
    if lead < 0x80:
        return 1
    if lead < 0xC0:
        return 0
    if lead < 0xE0:
        return 2
    if lead < 0xF0:
        return 3
    if lead < 0xF8:
        return 4
    return 0


def character_at(data, start):
    """The character whose bytes begin at start; None if none stands there."""
    length = length_told(data[start])
    if length == 0 or start + length > len(data):
        return None
    if length == 1:
        return data[start]
    character = data[start] & (0x7F >> length)
    for byte in data[start + 1:start + length]:
        if (byte & 0xC0) != 0x80:
            return None
        character = (character << 6) | (byte & 0x3F)
    if character < LEAST_OF_LENGTH[length] or not is_character(character):
        return None
    return character


def decoded(data):
    """The characters of a list of bytes; None if it is no strict UTF-8."""
    row = []
    at = 0
    while at < len(data):
        character = character_at(data, at)
        if character is None:
            return None
        row.append(character)
        at += length_told(data[at])
    return row


def bytes_of(character):
    """The bytes of one character, in the shortest form."""
    if character < 0x80:
        return [character]
    last = 0x80 | (character & 0x3F)
    if character < 0x800:
        return [0xC0 | (character >> 6), last]
    third = 0x80 | ((character >> 6) & 0x3F)
    if character < 0x10000:
        return [0xE0 | (character >> 12), third, last]
    second = 0x80 | ((character >> 12) & 0x3F)
    return [0xF0 | (character >> 18), second, third, last]


def encoded(row):
    """The bytes of a row of characters."""
    data = []
    for character in row:
        data.extend(bytes_of(character))
    return data
