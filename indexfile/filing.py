"""How a text is filed: its words, what they are turned into, and their units.

A unit is what the document calls an element: a pair of a rank and a number, so
that pairs stand in order as the document's signs, numbers and letters do.
"""

from indexfile.rulebook import DIGIT, LETTER, SIGN

RANK_OF_SIGN = 0
RANK_OF_NUMBER = 1
RANK_OF_LETTER = 2


class Filed:
    def __init__(self):
        self.words = []
        self.accents = []
        self.marks = []


def file_text(code, text):
    filed = Filed()
    for word in without_article(code.articles, words_of(code.book, text)):
        add_word(filed, parts_of(code.book, turned(code.turns, word)))
    return filed


def words_of(book, text):
    words = [[]]
    for character in text:
        if book.is_gap(character):
            words.append([])
        else:
            words[-1].append(character)
    return [word for word in words if len(word) > 0]


def without_article(articles, words):
    if len(words) > 1 and words[0] in articles:
        return words[1:]
    return words


def turned(turns, word):
    for turn in turns:
        if fits(turn, word):
            return turn.brought + word[len(turn.front):]
    return word


def fits(turn, word):
    if turn.whole == 1:
        return word == turn.front
    return word[:len(turn.front)] == turn.front


def parts_of(book, word):
    parts = []
    for character in word:
        parts.extend(book.parts(character))
    return parts


def add_word(filed, parts):
    if len(parts) > 0:
        filed.words.append(units_of(parts))
    for part in parts:
        if part.kind == LETTER:
            filed.accents.append(part.accent)
            filed.marks.append(part.mark)


def units_of(parts):
    units = []
    in_number = False
    for part in parts:
        if part.kind == DIGIT and in_number:
            units[-1] = (RANK_OF_NUMBER, units[-1][1] * 10 + part.weight)
        else:
            units.append((rank_of(part.kind), part.weight))
        in_number = part.kind == DIGIT
    return units


def rank_of(kind):
    if kind == SIGN:
        return RANK_OF_SIGN
    if kind == DIGIT:
        return RANK_OF_NUMBER
    return RANK_OF_LETTER
