"""group: by a text's first sign, number or letter."""

import unittest

from tests.helper import DIGIT, GREATEST, LETTER, SIGN, SPELLED
from tests.helper import HOUSE_RULES, article, ask, begin, group, house, rule, rules, spell, turn


class GroupTest(unittest.TestCase):
    def groups(self, expected, *texts, more=()):
        for way in (0, 1):
            told = ask(*house(way), *more, *[group(text) for text in texts])
            self.assertEqual(told[-len(texts):], [[0, expected]] * len(texts), texts)

    def test_no_units(self):
        self.groups(0, '', ' ', ' - ', "'", "' !", [GREATEST])

    def test_a_new_object_knows_the_group_0_alone(self):
        for way in ([], [begin(0)], [begin(1)]):
            self.assertEqual(ask(*way, group(''), group('a'), group('1'), group('*'))[len(way):], [[0, 0]] * 4)

    def test_a_sign(self):
        self.groups(1, '*', '#', '*a', '*1', ' *', "'#", '* a')

    def test_a_sign_of_any_weight(self):
        self.groups(1, [1], [2], more=[rules(rule(1, 1, SIGN, 1), rule(2, 2, SIGN, 65535))])

    def test_a_number(self):
        self.groups(2, '0', '1', '9', '12', '12a', '007', '1 a', ' 1', "'1", '9' * 256)

    def test_a_number_of_any_value(self):
        self.groups(2, [1], [2], [2, 1], more=[rules(rule(1, 1, DIGIT, 0), rule(2, 2, DIGIT, 9))])

    def test_a_letter_by_its_weight(self):
        self.groups(3, 'a', 'A', '\xe1', 'ab', 'a b', "'a", ' a')
        self.groups(4, 'b', 'B', 'ba', 'b1', 'b*')
        self.groups(28, 'z', 'Z', 'za')

    def test_the_greatest_weight(self):
        told = [rules(rule(0, 65534, LETTER, 1, 1))]
        self.groups(65537, [65534], [65534, 0], more=told)
        self.groups(3, [0], [0, 65534], more=told)

    def test_a_letter_that_is_spelled(self):
        self.groups(3, '\xe6', '\xe6on')
        told = [spell('1b'), spell('*b'), rules(*HOUSE_RULES, rule('@', '@', SPELLED, 1), rule('~', '~', SPELLED, 2))]
        self.groups(2, '@', '@1', more=told)
        self.groups(1, '~', '~1', more=told)

    def test_words_without_units_are_left_out(self):
        self.groups(4, "' b", "! ' b a")

    def test_a_left_out_article_does_not_count(self):
        told = [article('the')]
        self.groups(4, 'the bee', 'bee', ' the b', more=told)
        self.groups(22, 'the', 'the the', more=told)
        self.groups(0, "the '", more=told)

    def test_it_goes_by_what_a_turn_brings(self):
        told = [turn('b', '*c'), turn('c', '2', 1), turn('d', " 'e"), turn('e', ' ', 1)]
        self.groups(1, 'b', 'bx', more=told)
        self.groups(2, 'c', more=told)
        self.groups(5, 'cc', more=told)
        self.groups(7, 'dx', more=told)
        self.groups(0, 'e', more=told)
        self.groups(26, 'e x', more=told)

    def test_256_characters_are_taken_and_257_refused(self):
        told = ask(*house(), group('b' * 256), group('b' * 257), group([1] * 260), group('b'), spell('x'))
        self.assertEqual(told[3:], [[0, 4], [-10], [-10], [0, 4], [0, 1]])


if __name__ == '__main__':
    unittest.main()
