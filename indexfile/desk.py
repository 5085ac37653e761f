"""Answers calls on one code: the program's interface."""

from indexfile.callsheet import single_calls
from indexfile.codebook import Code, RIGHT_THROUGH, Turn, WORD_BY_WORD
from indexfile.ordering import order_of
from indexfile.rulebook import NUMBERS_OF_A_RULE, RuleBook, first_wrong_rule, read_rules

LONGEST_TEXT = 256
LONGEST_SPELLING = 4
LONGEST_FRONT = 8
LONGEST_BROUGHT = 12
LONGEST_ARTICLE = 16
MOST_SPELLINGS = 256
MOST_TURNS = 64
MOST_ARTICLES = 32
MOST_RULES = 1024


# A call may put another code in the old one's place, so calls are handed what holds it.
class Desk:
    def __init__(self):
        self.code = Code(WORD_BY_WORD)


def refused(number):
    return [-number]


def has_length(row, most):
    return 1 <= len(row) <= most


def is_too_long(text):
    return len(text) > LONGEST_TEXT


def keep_one_more(kept, fresh, most):
    if len(kept) >= most:
        return refused(2)
    kept.append(fresh)
    return [0, len(kept) - 1]


# Every call is handed its numbers and its lists, though it may have none of them: one table serves all calls.
def answer_begin(desk, numbers, rows):
    if numbers[0] > RIGHT_THROUGH:
        return refused(1)
    desk.code = Code(numbers[0])
    return [0, 0]


def answer_spell(desk, numbers, rows):
    if not has_length(rows[0], LONGEST_SPELLING):
        return refused(1)
    return keep_one_more(desk.code.spellings, rows[0], MOST_SPELLINGS)


def answer_turn(desk, numbers, rows):
    if not has_length(rows[0], LONGEST_FRONT) or not has_length(rows[1], LONGEST_BROUGHT) or numbers[0] > 1:
        return refused(1)
    return keep_one_more(desk.code.turns, Turn(rows[0], rows[1], numbers[0]), MOST_TURNS)


def answer_article(desk, numbers, rows):
    if not has_length(rows[0], LONGEST_ARTICLE):
        return refused(1)
    return keep_one_more(desk.code.articles, rows[0], MOST_ARTICLES)


def answer_rules(desk, numbers, rows):
    if len(rows[0]) > MOST_RULES * NUMBERS_OF_A_RULE:
        return refused(1)
    book = RuleBook(read_rules(rows[0]), list(desk.code.spellings))
    wrong = first_wrong_rule(book)
    if wrong is not None:
        return refused(3) + [wrong]
    desk.code.book = book
    return [0, 0]


def answer_order(desk, numbers, rows):
    if is_too_long(rows[0]) or is_too_long(rows[1]):
        return refused(10)
    return [0, order_of(desk.code, rows[0], rows[1])]


CALLS = {
    1: answer_begin,
    2: answer_spell,
    3: answer_turn,
    4: answer_article,
    5: answer_rules,
    6: answer_order,
}


def answers(calls):
    desk = Desk()
    told = []
    for call in single_calls(calls):
        answer = CALLS[call.number](desk, call.numbers, call.rows)
        told.append(len(answer))
        told.extend(answer)
    return told
