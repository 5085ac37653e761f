"""The order of texts by a code, with the level at which two of them part.

A text's levels are its four rows, the first level's row first: so two lists of
levels stand to one another as their texts do.
"""

from indexfile.codebook import RIGHT_THROUGH
from indexfile.filing import file_text


def order_of(code, one, other):
    rows_of_one = levels_of(code, one)
    rows_of_other = levels_of(code, other)
    for at, row in enumerate(rows_of_one):
        if row < rows_of_other[at]:
            return -(at + 1)
        if row > rows_of_other[at]:
            return at + 1
    return 0


def levels_of(code, text):
    filed = file_text(code, text)
    return [first_level(code.way, filed.words), filed.accents, filed.marks, text]


def levels_of_all(code, texts):
    return [levels_of(code, text) for text in texts]


def first_level(way, words):
    if way == RIGHT_THROUGH:
        return joined(words)
    return words


def joined(words):
    units = []
    for word in words:
        units.extend(word)
    return units


# The same texts stay in the order of their numbers: sorted leaves what is equal as it stands.
def numbers_in_order(levels):
    return sorted(range(len(levels)), key=lambda number: levels[number])


def is_filed(levels):
    for number in range(1, len(levels)):
        if levels[number] < levels[number - 1]:
            return False
    return True
