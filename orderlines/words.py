"""Texts as rows of bytes: their lines and words, and the forms of names."""

LINE_END = 10
BLANK = 32
LAST_PRINTABLE = 126
GREAT_A = 65
GREAT_Z = 90
SMALL_A = 97
SMALL_Z = 122

LONGEST_NAME = 16
SHORT_NAME = 3
LONGEST_SHORE_NAME = 8


def is_text(row, longest):
    return len(row) <= longest and all([0 <= number <= 255 for number in row])


def is_printable(text):
    return all([BLANK <= byte <= LAST_PRINTABLE for byte in text])


def spelled(word):
    return tuple([ord(sign) for sign in word])


def parts_of(text, between):
    parts = []
    part = []
    for byte in text:
        if byte == between:
            parts.append(tuple(part))
            part = []
        else:
            part.append(byte)
    parts.append(tuple(part))
    return parts


def lines_of(text):
    return parts_of(text, LINE_END)


def words_of(text):
    # Several blanks side by side have empty parts between them, which are no words.
    return [part for part in parts_of(text, BLANK) if len(part) > 0]


def line_of(words):
    line = []
    for word in words:
        if len(line) > 0:
            line.append(BLANK)
        line.extend(word)
    line.append(LINE_END)
    return line


def is_great_letter(byte):
    return GREAT_A <= byte <= GREAT_Z


def are_small_letters(text):
    return all([SMALL_A <= byte <= SMALL_Z for byte in text])


def is_great_then_small(text):
    return is_great_letter(text[0]) and are_small_letters(text[1:])


def is_name(text):
    return 2 <= len(text) <= LONGEST_NAME and is_great_then_small(text)


def is_short_name(text):
    return len(text) == SHORT_NAME and is_great_then_small(text)


def is_shore_name(text):
    return 1 <= len(text) <= LONGEST_SHORE_NAME and are_small_letters(text)
