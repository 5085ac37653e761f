"""Calls in the form in which they are handed in, and answers call by call."""

from indexfile.desk import answers

LETTER, DIGIT, SIGN, GAP, NOTHING, SPELLED = range(6)
GREATEST = 4294967295


def call(number, numbers, rows):
    made = [number, len(numbers)] + list(numbers) + [len(rows)]
    for row in rows:
        made += [len(row)] + characters(row)
    return made


def characters(text):
    return [ord(sign) for sign in text] if isinstance(text, str) else list(text)


def begin(way):
    return call(1, [way], [])


def spell(text):
    return call(2, [], [text])


def turn(front, brought, whole=0):
    return call(3, [whole], [front, brought])


def article(text):
    return call(4, [], [text])


def rules(*told):
    return call(5, [], [[number for one in told for number in one]])


def order(one, other):
    return call(6, [], [one, other])


def begins(question, text):
    return call(7, [], [question, text])


def group(text):
    return call(8, [], [text])


def file(texts):
    return call(9, [], texts)


def seek(texts, question):
    return call(10, [], [question] + list(texts))


def rule(first, last, kind, weight=0, rise=0, mark=0, accent=0):
    first, last = [ord(end) if isinstance(end, str) else end for end in (first, last)]
    return (first, last, kind, rise, mark, accent, weight)


def ask(*calls):
    """What each call answers, one list a call."""
    told = answers([number for one in calls for number in one])
    parted = []
    at = 0
    while at < len(told):
        parted.append(told[at + 1:at + 1 + told[at]])
        at += 1 + told[at]
    return parted


def last(*calls):
    return ask(*calls)[-1]


# Letters a to z weigh 1 to 26, capitals the same with mark 1, accented a and e
# have accent 1; the ligature of a and e is spelled; '*' and '#' are signs, a
# hyphen and a blank are gaps, an apostrophe is nothing.
HOUSE_SPELLINGS = [spell('ae')]
HOUSE_RULES = [
    rule('a', 'z', LETTER, 1, 1),
    rule('A', 'Z', LETTER, 1, 1, mark=1),
    rule('0', '9', DIGIT, 0, 1),
    rule('*', '*', SIGN, 1),
    rule('#', '#', SIGN, 2),
    rule(' ', ' ', GAP),
    rule('-', '-', GAP),
    rule("'", "'", NOTHING),
    rule('\xe1', '\xe1', LETTER, 1, accent=1),
    rule('\xe9', '\xe9', LETTER, 5, accent=1),
    rule('\xe6', '\xe6', SPELLED, 0, accent=7, mark=3),
]


def house(way=0):
    return [begin(way)] + HOUSE_SPELLINGS + [rules(*HOUSE_RULES)]
