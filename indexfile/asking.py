"""What is asked of a text or a filed row: what begins as a question, and a text's group."""

from indexfile.codebook import RIGHT_THROUGH
from indexfile.filing import RANK_OF_NUMBER, RANK_OF_SIGN, file_text
from indexfile.ordering import levels_of

GROUP_OF_NOTHING = 0
GROUP_OF_SIGNS = 1
GROUP_OF_NUMBERS = 2
GROUPS_BEFORE_LETTERS = 2


def begins_as(code, question, text):
    return begins_at_first_level(code.way, levels_of(code, question)[0], levels_of(code, text)[0])


def begins_at_first_level(way, asked, told):
    if way == RIGHT_THROUGH:
        return begins_with(told, asked)
    return len(asked) == 0 or begins_word_by_word(asked, told)


def begins_word_by_word(asked, told):
    last = len(asked) - 1
    return len(told) > last and told[:last] == asked[:last] and begins_with(told[last], asked[last])


def begins_with(row, front):
    return row[:len(front)] == front


# At level 1 nothing comes between what's before the question and what begins as it.
# So two counts tell the stretch, also where nothing begins as the question.
def stretch_of(way, question, levels):
    asked = question[0]
    before = len([told for told in levels if told[0] < asked])
    begun = len([told for told in levels if begins_at_first_level(way, asked, told[0])])
    return [before, before + begun]


def group_of(code, text):
    words = file_text(code, text).words
    if len(words) == 0:
        return GROUP_OF_NOTHING
    return group_of_unit(words[0][0])


def group_of_unit(unit):
    if unit[0] == RANK_OF_SIGN:
        return GROUP_OF_SIGNS
    if unit[0] == RANK_OF_NUMBER:
        return GROUP_OF_NUMBERS
    return GROUPS_BEFORE_LETTERS + unit[1]
