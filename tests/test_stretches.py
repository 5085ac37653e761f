"""What begins as a question stands in one stretch of any filed row; so does a group."""

import random
import unittest

from tests.helper import DIGIT, GAP, LETTER, NOTHING, SIGN, SPELLED
from tests.helper import article, ask, begin, begins, file, group, house, last, order, rule, rules, seek, spell, turn

SIGNS = "abAB12* -'\xe1\xe6"


def chosen_texts(chosen, most, count):
    return [''.join(chosen.choices(SIGNS, k=chosen.randrange(most + 1))) for made in range(count)]


def chosen_rules(chosen):
    """Each of the signs but one goes by a rule of some kind; the one that's left is nothing."""
    told = [rule('e', 'e', LETTER, 1), rule('9', '9', DIGIT, 9)]
    for sign in chosen.sample(SIGNS, len(SIGNS) - 1):
        kind = chosen.choice([LETTER, LETTER, LETTER, DIGIT, SIGN, GAP, GAP, NOTHING, SPELLED])
        weight = {SPELLED: 0, GAP: 0, NOTHING: 0}.get(kind, chosen.randrange(1, 4))
        told.append(rule(sign, sign, kind, weight, mark=chosen.randrange(2), accent=chosen.randrange(2)))
    return rules(*told)


def codes():
    chosen = random.Random(36)
    for way in (0, 1):
        yield house(way)
        yield house(way) + [article('a'), article("'"), turn('ab', 'A 1'), turn('a', '\xe62', 1), turn("'", 'b')]
        for made in range(6):
            more = [article(chosen.choice(SIGNS)) for place in range(2)]
            more += [turn(chosen.choice(SIGNS), ''.join(chosen.choices(SIGNS, k=2)), place % 2) for place in range(3)]
            yield [begin(way), spell('e9'), chosen_rules(chosen)] + more


class StretchesTest(unittest.TestCase):
    def rows(self):
        chosen = random.Random(54)
        for code in codes():
            texts = chosen_texts(chosen, 6, 60)
            told = last(*code, file(texts))
            self.assertEqual(told[0], 0)
            yield code, [texts[number] for number in told[1:]], chosen_texts(chosen, 3, 25)

    def test_codes_are_taken(self):
        for code in codes():
            self.assertEqual([answer[0] for answer in ask(*code)], [0] * len(code))

    def test_what_begins_as_a_question_stands_in_one_stretch(self):
        for code, row, questions in self.rows():
            for question in questions:
                told = [answer[1] for answer in ask(*code, *[begins(question, text) for text in row])[len(code):]]
                numbers = [number for number, begun in enumerate(told) if begun == 1]
                self.assertEqual(numbers, list(range(numbers[0], numbers[-1] + 1)) if numbers else [])
                start, end = last(*code, seek(row, question))[1:]
                self.assertEqual(list(range(start, end)), numbers)

    def test_where_none_begins_what_comes_before_it_at_level_1_is_counted(self):
        seen = 0
        for code, row, questions in self.rows():
            for question in questions:
                start, end = last(*code, seek(row, question))[1:]
                told = [answer[1] for answer in ask(*code, *[order(text, question) for text in row])[len(code):]]
                self.assertEqual(start, told.count(-1))
                seen += start == end
        self.assertGreater(seen, 20)

    def test_groups_rise_so_each_stands_in_one_stretch(self):
        for code, row, questions in self.rows():
            told = [answer[1] for answer in ask(*code, *[group(text) for text in row])[len(code):]]
            self.assertEqual(told, sorted(told))

    def test_a_filed_row_is_in_order_and_stays_as_it_is(self):
        for code, row, questions in self.rows():
            self.assertEqual(last(*code, file(row)), [0] + list(range(len(row))))
            self.assertEqual(last(*code, file(row[::-1]))[0], 0)
            self.assertNotEqual(last(*code, seek(row, ''))[0], -3)
            self.assertEqual(last(*code, seek(row[::-1], '')), [-3])


if __name__ == '__main__':
    unittest.main()
