"""A house's code: its way, spellings, turns, articles and rules."""

from indexfile.rulebook import RuleBook

WORD_BY_WORD = 0
RIGHT_THROUGH = 1


class Turn:
    def __init__(self, front, brought, whole):
        self.front = front
        self.brought = brought
        self.whole = whole


class Code:
    def __init__(self, way):
        self.way = way
        self.spellings = []
        self.turns = []
        self.articles = []
        self.book = RuleBook([], [])
