"""Answers calls on one code: the program's interface."""

from indexfile.asking import begins_as, group_of, stretch_of
from indexfile.callsheet import single_calls
from indexfile.codebook import Code, RIGHT_THROUGH, Turn, WORD_BY_WORD
from indexfile.ordering import is_filed, levels_of, levels_of_all, numbers_in_order, order_of
from indexfile.rulebook import NUMBERS_OF_A_RULE, RuleBook, first_wrong_rule, read_rules

LONGEST_TEXT = 256
LONGEST_SPELLING = 4
LONGEST_FRONT = 8
LONGEST_BROUGHT = 12
LONGEST_ARTICLE = 16
MOST_SPELLINGS = 256
MOST_TURNS = 64
MOST_ARTICLES = 32
MOST_RULES = 1024
MOST_TEXTS = 4096


# A call may put another code in the old one's place, so calls are handed what holds it.
class Desk:
    def __init__(self):
        self.code = Code(WORD_BY_WORD)


def refused(number):
    return [-number]


def has_length(row, most):
    return 1 <= len(row) <= most


def has_long_text(texts):
    return any([len(text) > LONGEST_TEXT for text in texts])


def keep_one_more(kept, fresh, most):
    if len(kept) >= most:
        return refused(2)
    kept.append(fresh)
    return [0, len(kept) - 1]


# Every call is handed its numbers and its lists, though it may have none of them: one table serves all calls.
def answer_begin(desk, numbers, rows):
    if numbers[0] > RIGHT_THROUGH:
        return refused(1)
    desk.code = Code(numbers[0])
    return [0, 0]


def answer_spell(desk, numbers, rows):
    if not has_length(rows[0], LONGEST_SPELLING):
        return refused(1)
    return keep_one_more(desk.code.spellings, rows[0], MOST_SPELLINGS)


def answer_turn(desk, numbers, rows):
    if not has_length(rows[0], LONGEST_FRONT) or not has_length(rows[1], LONGEST_BROUGHT) or numbers[0] > 1:
        return refused(1)
    return keep_one_more(desk.code.turns, Turn(rows[0], rows[1], numbers[0]), MOST_TURNS)


def answer_article(desk, numbers, rows):
    if not has_length(rows[0], LONGEST_ARTICLE):
        return refused(1)
    return keep_one_more(desk.code.articles, rows[0], MOST_ARTICLES)


def answer_rules(desk, numbers, rows):
    if len(rows[0]) > MOST_RULES * NUMBERS_OF_A_RULE:
        return refused(1)
    book = RuleBook(read_rules(rows[0]), list(desk.code.spellings))
    wrong = first_wrong_rule(book)
    if wrong is not None:
        return refused(3) + [wrong]
    desk.code.book = book
    return [0, 0]


def answer_order(desk, numbers, rows):
    if has_long_text(rows):
        return refused(10)
    return [0, order_of(desk.code, rows[0], rows[1])]


def answer_begins(desk, numbers, rows):
    if has_long_text(rows):
        return refused(10)
    return [0, 1 if begins_as(desk.code, rows[0], rows[1]) else 0]


def answer_group(desk, numbers, rows):
    if has_long_text(rows):
        return refused(10)
    return [0, group_of(desk.code, rows[0])]


def answer_file(desk, numbers, rows):
    if has_long_text(rows):
        return refused(10)
    if len(rows) > MOST_TEXTS:
        return refused(1)
    return [0] + numbers_in_order(levels_of_all(desk.code, rows))


def answer_seek(desk, numbers, rows):
    texts = rows[1:]
    if has_long_text(rows):
        return refused(10)
    if len(texts) > MOST_TEXTS:
        return refused(1)
    levels = levels_of_all(desk.code, texts)
    if not is_filed(levels):
        return refused(3)
    return [0] + stretch_of(desk.code.way, levels_of(desk.code, rows[0]), levels)


CALLS = {
    1: answer_begin,
    2: answer_spell,
    3: answer_turn,
    4: answer_article,
    5: answer_rules,
    6: answer_order,
    7: answer_begins,
    8: answer_group,
    9: answer_file,
    10: answer_seek,
}


def answers(calls):
    desk = Desk()
    told = []
    for call in single_calls(calls):
        answer = CALLS[call.number](desk, call.numbers, call.rows)
        told.append(len(answer))
        told.extend(answer)
    return told
