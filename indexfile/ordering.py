"""The order of two texts by a code, with the level at which they part."""

from indexfile.codebook import RIGHT_THROUGH
from indexfile.filing import file_text


def order_of(code, one, other):
    rows_of_one = levels_of(code, one)
    rows_of_other = levels_of(code, other)
    for at, row in enumerate(rows_of_one):
        if row < rows_of_other[at]:
            return -(at + 1)
        if row > rows_of_other[at]:
            return at + 1
    return 0


def levels_of(code, text):
    filed = file_text(code, text)
    return [first_level(code.way, filed.words), filed.accents, filed.marks, text]


def first_level(way, words):
    if way == RIGHT_THROUGH:
        return joined(words)
    return words


def joined(words):
    units = []
    for word in words:
        units.extend(word)
    return units
