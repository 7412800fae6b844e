"""Reads the words that stand for places."""

from orderlines.errors import MALFORMED, NO_PROVINCE, NO_SHORE, SEVERAL_PROVINCES

SLASH = 47


class Place:
    def __init__(self, error, province, shore):
        # 0 if there is none; else there is neither province nor shore.
        self.error = error
        self.province = province
        # None where none is told: this differs from telling shore 0.
        self.shore = shore


def no_place(error):
    return Place(error, None, None)


def read_shore(table, p, word):
    shores = table.provinces[p].shores
    if word not in shores:
        return no_place(NO_SHORE)
    return Place(0, p, shores.index(word))


def read_place(table, word):
    # What is behind the first slash is told as a shore, even if that is the empty word.
    end = word.index(SLASH) if SLASH in word else len(word)
    meant = table.provinces_meant(word[:end])
    if len(meant) == 0:
        return no_place(NO_PROVINCE)
    if len(meant) > 1:
        return no_place(SEVERAL_PROVINCES)
    if end < len(word):
        return read_shore(table, meant[0], word[end + 1:])
    return Place(0, meant[0], None)


def read_first_place(table, words):
    if len(words) == 0:
        return no_place(MALFORMED)
    return read_place(table, words[0])
