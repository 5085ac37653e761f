"""begins: whether a text begins as a question, word by word and right through."""

import unittest

from tests.helper import DIGIT, LETTER, SIGN, SPELLED
from tests.helper import HOUSE_RULES, article, ask, begin, begins, house, order, rule, rules, spell, turn


class BeginsCase(unittest.TestCase):
    kept = house()

    def begun(self, question, *texts, more=()):
        told = ask(*self.kept, *more, *[begins(question, text) for text in texts])
        self.assertEqual(told[-len(texts):], [[0, 1]] * len(texts), (question, texts))

    def not_begun(self, question, *texts, more=()):
        told = ask(*self.kept, *more, *[begins(question, text) for text in texts])
        self.assertEqual(told[-len(texts):], [[0, 0]] * len(texts), (question, texts))


class RefusalTest(unittest.TestCase):
    def test_256_characters_are_taken(self):
        self.assertEqual(ask(begins([1] * 256, [1] * 256), begins([1] * 256, [])), [[0, 1]] * 2)

    def test_257_characters_are_refused(self):
        long = [1] * 257
        told = ask(begins(long, []), begins([], long), begins(long, long), begins([2] * 260, [2]), begins([1], [1]))
        self.assertEqual(told, [[-10]] * 4 + [[0, 1]])

    def test_a_refused_question_changes_nothing(self):
        asked = [begins('b', 'A'), begins('a', 'A'), spell('x')]
        self.assertEqual(ask(*house(), begins('a' * 257, 'a'), *asked)[3:], [[-10], [0, 0], [0, 1], [0, 1]])


class WordByWordTest(BeginsCase):
    def test_an_empty_question_begins_all(self):
        self.begun('', '', ' ', 'a', 'a b', '*', '12')

    def test_a_question_of_gaps_alone_begins_all(self):
        self.begun(' ', '', 'a', 'a b')
        self.begun(' - -', '', 'a', 'a b')

    def test_a_question_of_words_without_units_begins_all(self):
        self.begun("'", '', 'a', '1')
        self.begun("' '!-'", '', 'a', '*')

    def test_words_without_units_are_left_out_of_the_question(self):
        self.begun("' new ' y '", 'new york')
        self.not_begun("' new ' y '", 'new', 'newy', 'new zealand')

    def test_words_without_units_are_left_out_of_the_text(self):
        self.begun('new y', "' new ' york")
        self.not_begun('a', "'", '')

    def test_a_single_word_begins_words(self):
        self.begun('new', 'new', 'newark', 'new york', 'newt', 'news a')
        self.not_begun('new', '', 'ne', 'nex', 'anew', 'a new', 'n ew', 'ne w')

    def test_the_last_word_is_begun(self):
        self.begun('new y', 'new y', 'new york', 'new york city', 'new yz')

    def test_the_last_word_is_not_begun(self):
        self.not_begun('new y', 'new', 'new zealand', 'newy', 'newyork', 'new a york', 'york new')

    def test_words_but_the_last_are_one_by_one_the_same(self):
        self.begun('a b c', 'a b c', 'a b cd e')
        self.not_begun('a b c', 'aa b c', 'a bb c', 'a c c', 'b b c', 'a b', 'a bc', 'a b b')

    def test_a_question_with_more_words_than_the_text(self):
        self.not_begun('a b', 'a', '', 'ab')
        self.not_begun('a b c', 'a b', 'a', '')
        self.not_begun("a b", "a '")

    def test_a_question_longer_than_the_text_s_word(self):
        self.not_begun('abc', 'ab', 'ab c', 'a')
        self.not_begun('a bcd', 'a bc', 'a bc d')

    def test_a_gap_at_the_end_changes_nothing(self):
        self.begun('new ', 'newark', 'new york')
        self.begun('-new', 'newark', '  new york')


class RightThroughTest(BeginsCase):
    kept = house(1)

    def test_an_empty_question_begins_all(self):
        for question in ('', ' ', ' - ', "'", "' '"):
            self.begun(question, '', ' ', 'a', 'a b', '*', '12')

    def test_the_row_of_units_begins(self):
        self.begun('new', 'new', 'newark', 'new york', 'ne w', 'n-ew', 'n e wark')
        self.begun('new y', 'newyork', 'new york', 'ne wy')
        self.begun('a b c', 'abc', 'ab cd', 'a bcd')

    def test_it_does_not_begin(self):
        self.not_begun('new', '', 'ne', 'nex', 'anew', 'a new', 'nwe')
        self.not_begun('new y', 'new', 'new zealand', 'newark')

    def test_a_question_longer_than_the_text(self):
        self.not_begun('abc', 'ab', 'a b', '')
        self.not_begun('a b c', 'a b', 'ab')

    def test_numbers_of_two_words_are_two(self):
        self.begun('1 2', '1 2', '1 2a')
        self.not_begun('1 2', '12', '1 23')
        self.not_begun('12', '1 2')


class BothWaysTest(BeginsCase):
    def both(self, check, question, *texts, more=()):
        for way in (0, 1):
            self.kept = house(way)
            check(question, *texts, more=more)

    def test_a_number_is_begun_by_itself_alone(self):
        self.both(self.begun, '12', '12', '12a', '012', "1'2", '12 3')
        self.both(self.not_begun, '1', '12', '10', '123')
        self.both(self.not_begun, '12', '1', '123', '120')
        self.both(self.begun, '012', '12')
        self.both(self.begun, 'a1', 'a1', 'a1b', 'a01')
        self.both(self.not_begun, 'a1', 'a12', 'a', 'a2')
        self.both(self.begun, 'a 1', 'a 1', 'a 1b')
        self.both(self.not_begun, 'a 1', 'a 10')

    def test_large_numbers(self):
        self.both(self.begun, str(2 ** 70), str(2 ** 70), str(2 ** 70) + 'a')
        self.both(self.not_begun, str(2 ** 70), str(2 ** 70 + 1), str(2 ** 70) + '0')

    def test_signs_numbers_and_letters_of_one_weight_differ(self):
        told = [rules(rule(1, 1, SIGN, 5), rule(2, 2, DIGIT, 5), rule(3, 3, LETTER, 5))]
        for one in (1, 2, 3):
            for other in (1, 2, 3):
                check = self.begun if one == other else self.not_begun
                self.both(check, [one], [other], more=told)

    def test_accents_and_marks_are_not_looked_at(self):
        self.both(self.begun, 'CAF', 'caf\xe9', 'cafe')
        self.both(self.begun, 'caf\xe9', 'cafes', 'CAFE')

    def test_what_is_spelled(self):
        self.both(self.begun, '\xe6', 'aeon', '\xe6on')
        self.both(self.begun, 'a', '\xe6on')
        self.both(self.begun, 'ae', '\xe6on')
        self.both(self.not_begun, '\xe6', 'aon', 'a')

    def test_a_number_that_is_spelled_goes_on(self):
        told = [spell('a1'), rules(*HOUSE_RULES, rule('@', '@', SPELLED, 1))]
        self.both(self.begun, '@', 'a1', '@b', more=told)
        self.both(self.not_begun, '@', '@2', 'a12', more=told)

    def test_an_article_of_the_text_is_left_out(self):
        told = [article('the')]
        self.both(self.begun, 'bee', 'the bee', 'the bees', more=told)
        self.both(self.not_begun, 'the', 'the bee', 'the a', more=told)
        self.both(self.begun, 'the', 'the', 'them', 'the the', more=told)

    def test_an_article_of_the_question_is_left_out(self):
        told = [article('the')]
        self.both(self.begun, 'the bee', 'bee', 'bees', 'the bees', more=told)
        self.both(self.not_begun, 'the bee', 'the', 'the wasp', 'the the bee', more=told)
        self.both(self.begun, "the '", '', 'a', 'the', more=told)

    def test_turns_of_the_text(self):
        told = [turn('mc', 'mac'), turn('st', 'saint', 1)]
        self.both(self.begun, 'mac', 'mcdonald', 'macdonald', more=told)
        self.both(self.begun, 'sain', 'st john', more=told)
        self.both(self.not_begun, 'sain', 'sta', more=told)

    def test_turns_of_the_question(self):
        told = [turn('mc', 'mac'), turn('st', 'saint', 1)]
        self.both(self.begun, 'mc', 'macdonald', 'mcdonald', more=told)
        self.both(self.not_begun, 'm', 'b', more=told)
        self.both(self.begun, 'st', 'saint john', 'saints', more=told)
        self.both(self.not_begun, 'st', 'sta', 'stb', more=told)
        self.both(self.begun, 'st j', 'saint john', 'st john', more=told)

    def test_gaps_that_a_turn_brings_part_no_words(self):
        told = [turn('etc', 'et cetera', 1)]
        self.both(self.begun, 'etc', 'etcetera', more=told)
        self.both(self.begun, 'etc', 'etceteras a', more=told)

    def test_each_text_begins_as_itself(self):
        for text in ('', ' ', 'the', 'the bee', '12 3', '\xe6on', "a ' b", '*a#'):
            self.both(self.begun, text, text, more=[article('the'), turn('a', 'b')])

    def test_a_new_object_knows_no_words(self):
        for way in ([], [begin(0)], [begin(1)]):
            self.kept = way
            self.begun('', '', 'a')
            self.begun('b', '', 'a', 'a b')

    def test_the_way_tells_them_apart(self):
        told = ask(*house(0), begins('new y', 'newyork'), *house(1), begins('new y', 'newyork'))
        self.assertEqual([told[3], told[-1]], [[0, 0], [0, 1]])

    def test_the_question_stands_first(self):
        self.assertEqual(ask(*house(), begins('a', 'ab'), begins('ab', 'a'), order('a', 'ab'))[3:],
                         [[0, 1], [0, 0], [0, -1]])


if __name__ == '__main__':
    unittest.main()
