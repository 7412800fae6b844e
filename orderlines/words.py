"""Texts as rows of bytes: their words, and the forms of names."""

BLANK = 32
GREAT_A = 65
GREAT_Z = 90
SMALL_A = 97
SMALL_Z = 122

LONGEST_NAME = 16
SHORT_NAME = 3
LONGEST_SHORE_NAME = 8


def is_text(row, longest):
    return len(row) <= longest and all([0 <= number <= 255 for number in row])


def words_of(text):
    words = []
    word = []
    for byte in text:
        if byte != BLANK:
            word.append(byte)
        elif len(word) > 0:
            words.append(tuple(word))
            word = []
    if len(word) > 0:
        words.append(tuple(word))
    return words


def is_great_letter(byte):
    return GREAT_A <= byte <= GREAT_Z


def are_small_letters(text):
    return all([SMALL_A <= byte <= SMALL_Z for byte in text])


def is_great_then_small(text):
    return is_great_letter(text[0]) and are_small_letters(text[1:])


def is_name(text):
    return 2 <= len(text) <= LONGEST_NAME and is_great_then_small(text)


def is_short_name(text):
    return len(text) == SHORT_NAME and is_great_then_small(text)


def is_shore_name(text):
    return 1 <= len(text) <= LONGEST_SHORE_NAME and are_small_letters(text)
