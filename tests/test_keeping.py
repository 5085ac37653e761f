"""spell, turn and article: what is taken, its number, what is refused."""

import unittest

from tests.helper import GREATEST, HOUSE_RULES, LETTER, SPELLED
from tests.helper import article, ask, begin, house, last, order, rule, rules, spell, turn


class SpellTest(unittest.TestCase):
    def test_1_to_4_characters(self):
        self.assertEqual(ask(spell('a'), spell('ab'), spell('abc'), spell([0, 1, 2, GREATEST])),
                         [[0, 0], [0, 1], [0, 2], [0, 3]])

    def test_0_and_5_characters_are_refused(self):
        self.assertEqual(ask(spell(''), spell('abcde')), [[-1], [-1]])

    def test_texts_longer_than_256_are_refused_1_here(self):
        self.assertEqual(ask(spell([7] * 256), spell([7] * 257), spell([7] * 260)), [[-1]] * 3)

    def test_the_256th_is_the_last(self):
        told = ask(*[spell('a')] * 257)
        self.assertEqual(told, [[0, number] for number in range(256)] + [[-2]])

    def test_of_two_refusals_the_first_is_told(self):
        told = ask(*[spell('a')] * 256, spell(''), spell('abcde'), spell('a'))
        self.assertEqual(told[256:], [[-1], [-1], [-2]])

    def test_the_same_spelling_twice_has_two_numbers(self):
        self.assertEqual(ask(spell('ab'), spell('ab')), [[0, 0], [0, 1]])

    def test_a_refused_spelling_takes_no_number(self):
        told = ask(spell('a'), spell(''), spell('abcde'), spell('b'),
                   rules(rule('a', 'z', LETTER, 1, 1), rule(1, 1, SPELLED, 1), rule(2, 2, SPELLED, 0)),
                   order([1], 'b'), order([2], 'a'))
        self.assertEqual(told, [[0, 0], [-1], [-1], [0, 1], [0, 0], [0, -4], [0, -4]])

    def test_the_257th_changes_nothing(self):
        many = [spell('a')] * 255 + [spell('b'), spell('c')]
        told = ask(*many, rules(rule('a', 'z', LETTER, 1, 1), rule(1, 1, SPELLED, 255)), order([1], 'b'))
        self.assertEqual(told[255:], [[0, 255], [-2], [0, 0], [0, -4]])


class TurnTest(unittest.TestCase):
    def test_1_to_8_and_1_to_12_characters(self):
        self.assertEqual(ask(turn('a', 'b', 0), turn([1] * 8, [2] * 12, 1), turn('a', [3] * 12), turn([4] * 8, 'b')),
                         [[0, 0], [0, 1], [0, 2], [0, 3]])

    def test_f_of_0_and_9_is_refused(self):
        self.assertEqual(ask(turn('', 'b'), turn([1] * 9, 'b'), turn([1] * 260, 'b')), [[-1]] * 3)

    def test_t_of_0_and_13_is_refused(self):
        self.assertEqual(ask(turn('a', ''), turn('a', [1] * 13), turn('a', [1] * 260)), [[-1]] * 3)

    def test_whole_above_1_is_refused(self):
        self.assertEqual(ask(turn('a', 'b', 2), turn('a', 'b', GREATEST), turn('a', 'b', 1)), [[-1], [-1], [0, 0]])

    def test_the_64th_is_the_last(self):
        told = ask(*[turn('a', 'b')] * 65)
        self.assertEqual(told, [[0, number] for number in range(64)] + [[-2]])

    def test_of_two_refusals_the_first_is_told(self):
        told = ask(*[turn('a', 'b')] * 64, turn('', 'b'), turn('a', ''), turn('a', 'b', 2), turn('a', 'b'))
        self.assertEqual(told[64:], [[-1], [-1], [-1], [-2]])

    def test_refused_turns_change_nothing(self):
        asked = [order('b', 'c'), order('d', 'e')]
        told = ask(*house(), turn('b', '', 0), turn('b', 'z' * 13), turn('b', 'z', 2), *asked, turn('d', 'z'))
        self.assertEqual(told[3:], [[-1]] * 3 + [[0, -1]] * 2 + [[0, 0]])
        told = ask(*house(), *[turn('b', 'z')] * 64, turn('d', 'z'), *asked)
        self.assertEqual(told[-3:], [[-2], [0, 1], [0, -1]])

    def test_the_longest_turn_works(self):
        told = ask(*house(), turn('abcdefgh', 'zyxwvutsrqpo'), order('abcdefghi', 'zyxwvutsrqpoi'))
        self.assertEqual(told[-1], [0, -4])


class ArticleTest(unittest.TestCase):
    def test_1_to_16_characters(self):
        self.assertEqual(ask(article('a'), article([GREATEST] * 16)), [[0, 0], [0, 1]])

    def test_0_and_17_characters_are_refused(self):
        self.assertEqual(ask(article(''), article([1] * 17), article([1] * 257), article([1] * 260)), [[-1]] * 4)

    def test_the_32nd_is_the_last(self):
        told = ask(*[article('a')] * 33)
        self.assertEqual(told, [[0, number] for number in range(32)] + [[-2]])

    def test_of_two_refusals_the_first_is_told(self):
        told = ask(*[article('a')] * 32, article(''), article([1] * 17), article('b'))
        self.assertEqual(told[32:], [[-1], [-1], [-2]])

    def test_refused_articles_change_nothing(self):
        told = ask(*house(), article('x' * 17), order('x' * 17 + ' a', 'b'), article('a'))
        self.assertEqual(told[3:], [[-1], [0, 1], [0, 0]])
        told = ask(*house(), *[article('the')] * 32, article('un'), order('un a', 'b'), order('the a', 'b'))
        self.assertEqual(told[-3:], [[-2], [0, 1], [0, -1]])

    def test_the_longest_article_works(self):
        self.assertEqual(last(*house(), article('x' * 16), order('x' * 16 + ' a', 'b')), [0, -1])


class TogetherTest(unittest.TestCase):
    def test_each_is_counted_by_itself(self):
        kept = [spell('a'), turn('a', 'b'), article('a')]
        self.assertEqual(ask(*kept, *kept), [[0, 0]] * 3 + [[0, 1]] * 3)

    def test_rules_in_between_leave_the_numbers_alone(self):
        kept = [spell('ae'), turn('q', 'b'), article('q')]
        self.assertEqual(ask(*kept, rules(*HOUSE_RULES), *kept), [[0, 0]] * 4 + [[0, 1]] * 3)

    def test_calls_come_in_any_order(self):
        asked = order('the mcy', 'mad')
        told = last(begin(1), article('the'), turn('mc', 'mac'), spell('ae'), rules(*HOUSE_RULES), asked)
        self.assertEqual(told, last(*house(1), turn('mc', 'mac'), article('the'), asked))
        self.assertEqual(told, [0, -1])


if __name__ == '__main__':
    unittest.main()
