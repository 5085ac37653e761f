"""order: how texts are filed, the levels at which they part, and that it's one order."""

import itertools
import random
import unittest

from tests.helper import DIGIT, GAP, GREATEST, LETTER, NOTHING, SIGN, SPELLED
from tests.helper import HOUSE_RULES, article, ask, begin, house, last, order, rule, rules, spell, turn


class OrderCase(unittest.TestCase):
    kept = house()

    def part(self, one, other, level, *more):
        """one stands before other and they part at that level, asked both ways."""
        told = ask(*self.kept, *more, order(one, other), order(other, one))
        self.assertEqual(told[-2:], [[0, -level], [0, level]], (one, other))

    def alike(self, one, other, *more):
        """Only their characters tell them from one another."""
        told = ask(*self.kept, *more, order(one, other), order(other, one))
        self.assertEqual(sorted(told[-2:]), [[0, -4], [0, 4]], (one, other))


class LongTextsTest(unittest.TestCase):
    def test_256_characters_are_taken(self):
        self.assertEqual(ask(order([1] * 256, [1] * 256), order([1] * 256, [])), [[0, 0], [0, 4]])

    def test_257_characters_are_refused(self):
        long = [1] * 257
        told = ask(order(long, []), order([], long), order(long, long), order([2] * 260, [2]), order([1], [1]))
        self.assertEqual(told, [[-10]] * 4 + [[0, 0]])

    def test_a_refused_order_changes_nothing(self):
        asked = order('b', 'A')
        self.assertEqual(ask(*house(), asked, order([1] * 257, 'a'), asked, spell('x'))[3:],
                         [[0, 1], [-10], [0, 1], [0, 1]])


class LevelsTest(OrderCase):
    def test_the_same(self):
        for text in ('', ' ', 'a', 'The Caf\xe9', "'"):
            self.assertEqual(last(*self.kept, order(text, text)), [0, 0])

    def test_level_1(self):
        self.part('a', 'b', 1)
        self.part('', 'a', 1)
        self.part('ab', 'abc', 1)

    def test_level_2(self):
        self.part('cafe', 'caf\xe9', 2)
        self.part('Cafe', 'caf\xe9', 2)
        self.part('caf\xe9', 'cafea', 1)

    def test_level_2_goes_by_the_first_accent_that_differs(self):
        self.part('ae\xe9', 'a\xe9e', 2)
        self.part('a\xe9e', '\xe1ee', 2)
        self.part('a\xe9', '\xe1\xe9', 2)

    def test_level_3(self):
        self.part('cafe', 'Cafe', 3)
        self.part('cafE', 'Cafe', 3)

    def test_level_4(self):
        self.part('a b', 'a-b', 4)
        self.part('a', "a'", 4)
        self.part('a ', 'a  ', 4)
        self.part('01', '1', 4)

    def test_level_4_takes_all_characters_by_their_numbers(self):
        self.part([1, GREATEST], [2], 4)
        self.part([9], [10], 4)
        self.part([GREATEST - 1], [GREATEST], 4)
        self.part('', [0], 4)

    def test_the_first_level_at_which_they_differ_decides(self):
        self.part('Z', 'zz', 1)
        self.part("'B", 'c', 1)
        self.part('B', '\xe9', 1)
        self.part('Ae', 'a\xe9', 2)
        self.part('a-b', 'A b', 3)

    def test_accents_and_marks_go_through_word_borders(self):
        self.part('ab \xe9', '\xe1b e', 2)
        self.part('ab C', 'aB c', 3)

    def test_word_borders_do_not_count_at_levels_2_and_3(self):
        self.kept = house(1)
        self.part('a \xe9', 'a\xe9', 4)
        self.part('ab \xe9', '\xe1be', 2)
        self.part('ab C', 'aBc', 3)

    def test_only_letters_have_accents_and_marks(self):
        told = [rules(rule('0', '9', DIGIT, 0, 1, 9, 9), rule('a', 'a', LETTER, 1, accent=1, mark=1),
                      rule('1', '1', DIGIT, 1), rule('b', 'b', LETTER, 1, accent=2, mark=1),
                      rule('c', 'c', LETTER, 1, accent=2, mark=2), rule('*', '*', SIGN, 1, 0, 5, 5),
                      rule('+', '+', SIGN, 1, 0, 6, 6), rule('!', '!', DIGIT, 1, 0, 3, 3))]
        self.alike('1', '!', *told)
        self.alike('*', '+', *told)
        self.part('+a', '*b', 2, *told)
        self.part('!b', '1c', 3, *told)
        self.alike('1a', '!a', *told)

    def test_the_greatest_accents_and_marks(self):
        told = [rules(rule(1, 1, LETTER, 1, 0, 15, 254), rule(2, 2, LETTER, 1, 0, 14, 255),
                      rule(3, 3, LETTER, 1, 0, 15, 255))]
        self.part([1], [2], 2, *told)
        self.part([2], [3], 3, *told)
        self.part([1], [3], 2, *told)

    def test_a_new_object_knows_level_4_alone(self):
        self.kept = []
        self.part('a', 'b', 4)
        self.part('B c', 'a', 4)


class WayTest(OrderCase):
    def test_word_by_word(self):
        self.part('new york', 'newark', 1)
        self.part('new', 'new york', 1)
        self.part('new zealand', 'newa', 1)
        self.part('a b', 'aa', 1)

    def test_right_through(self):
        self.kept = house(1)
        self.part('newark', 'new york', 1)
        self.part('new', 'new york', 1)
        self.part('aa', 'a b', 1)
        self.part('a b', 'ab', 4)
        self.part('a bc', 'ab c', 4)

    def test_words_are_rows_of_their_own(self):
        self.part('a bc', 'ab c', 1)
        self.part('a b c', 'a bc', 1)
        self.part('a z', 'a z a', 1)

    def test_several_gaps_stand_like_one(self):
        for way in (0, 1):
            self.kept = house(way)
            self.alike('a b', '  a - b--')
            self.alike('', ' - ')

    def test_words_without_units_are_left_out(self):
        for way in (0, 1):
            self.kept = house(way)
            self.alike("a ' b", 'a b')
            self.alike("' a b", 'a b')
            self.alike("a b '!", 'a b')
            self.alike("'", '')

    def test_nothing_stands_within_a_word(self):
        self.alike("o'neil", 'oneil')
        self.part("o neil", "o'neil", 1)


class ElementsTest(OrderCase):
    def test_signs_come_first_then_numbers_then_letters(self):
        for way in (0, 1):
            self.kept = house(way)
            self.part('*', '0', 1)
            self.part('#', '0', 1)
            self.part('9', 'a', 1)
            self.part('*', 'a', 1)
            self.part('a#', 'a0', 1)
            self.part('a99', 'aa', 1)
            self.part('a', 'a*', 1)

    def test_the_weight_does_not_outdo_the_rank(self):
        told = [rules(rule(1, 1, SIGN, 65535), rule(2, 2, DIGIT, 9), rule(3, 3, DIGIT, 0), rule(4, 4, LETTER, 1))]
        self.part([1], [3], 1, *told)
        self.part([2] * 9, [4], 1, *told)

    def test_signs_by_weight_numbers_by_value_letters_by_weight(self):
        self.part('*', '#', 1)
        self.part('9', '10', 1)
        self.part('y', 'z', 1)
        told = [rules(rule(1, 9, SIGN, 9), rule(2, 2, SIGN, 1))]
        self.alike([1], [2], *told)
        told = [rules(rule(2, 2, SIGN, 1), rule(1, 9, SIGN, 9, 1))]
        self.part([2], [1], 1, *told)
        self.part([3], [4], 1, *told)

    def test_numbers_by_value(self):
        self.part('a9', 'a10', 1)
        self.part('a99b', 'a100a', 1)
        self.part('199', '1000', 1)
        self.alike('007', '7')
        self.alike('0', '000')
        self.part('0', '1', 1)
        self.part('a', 'a0', 1)

    def test_digits_may_have_any_characters(self):
        told = [rules(rule('a', 'c', DIGIT, 7, 1), rule('0', '9', DIGIT, 0, 1), rule('x', 'y', DIGIT, 4))]
        self.alike('cab', '978', *told)
        self.alike('xy', '44', *told)

    def test_numbers_larger_than_2_to_the_64th(self):
        large = 2 ** 64
        for one, other in ((large - 1, large), (large, large + 1), (large, 10 * large), (2 ** 128, 2 ** 128 + 1),
                           (10 ** 200, 10 ** 200 + 1), (10 ** 255 - 1, 10 ** 255), (1, 1 + large)):
            self.part(str(one), str(other), 1)
        self.part('9' * 255, '1' + '0' * 255, 1)
        self.alike('0' * 200 + '1', '1')

    def test_numbers_of_more_digits_than_characters(self):
        told = [spell('9999'), spell('0000'), rules(rule('0', '9', DIGIT, 0, 1), rule('a', 'b', SPELLED, 1),
                                                    rule('c', 'c', SPELLED, 2))]
        self.part('a' * 255, '1' + 'c' * 255, 1, *told)
        self.part('a' * 255 + '9', 'a' * 256, 1, *told)

    def test_a_number_goes_across_nothing(self):
        self.alike("1'2", '12')
        self.alike('1!2', '12')
        self.part('2', "1'2", 1)

    def test_a_number_ends_at_gaps_letters_and_signs(self):
        for way in (0, 1):
            self.kept = house(way)
            self.part('1 2', '2', 1)
            self.part('1 2', '12', 1)
            self.part('1a2', '2', 1)
            self.part('1*2', '2', 1)
            self.part('1 2', '1 10', 1)
            self.part('a1 2', 'a12', 1)

    def test_numbers_of_two_words_are_two_right_through_as_well(self):
        self.kept = house(1)
        self.part('1 9', '1 10', 1)
        self.part('a 1 2', 'a 2', 1)


class SpelledTest(OrderCase):
    def test_it_stands_for_its_spelling_s_characters(self):
        self.part('\xe6b', 'aec', 1)
        self.part('aed', '\xe6e', 1)
        self.part('ad', '\xe6', 1)
        self.part('\xe6', 'af', 1)

    def test_letters_have_the_rule_s_accent_and_mark(self):
        self.part('ae', '\xe6', 2)
        told = [rules(*HOUSE_RULES[:10], rule('\xe6', '\xe6', SPELLED, 0, mark=3))]
        self.part('ae', '\xe6', 3, *told)
        self.part('AE', '\xe6', 3, *told)
        self.part('\xe6', '\xe1e', 2, *told)
        told = [rules(*HOUSE_RULES[:10], rule('\xe6', '\xe6', SPELLED, 0))]
        self.alike('ae', '\xe6', *told)

    def test_accents_and_marks_of_what_is_spelled_are_replaced(self):
        told = [spell('\xe1E'), rules(*HOUSE_RULES[:10], rule('\xe6', '\xe6', SPELLED, 1))]
        self.alike('ae', '\xe6', *told)
        self.part('\xe6', 'aE', 3, *told)
        self.part('\xe6', '\xe1e', 2, *told)

    def test_the_spelled_characters_themselves_keep_their_own(self):
        self.part('\xe6e', '\xe6E', 3)
        self.alike('\xe6a\xe6', "\xe6a'\xe6")

    def test_letters_digits_and_signs_are_spelled(self):
        told = [spell('a1*b'), rules(*HOUSE_RULES, rule('@', '@', SPELLED, 1, mark=2, accent=2),
                                     rule('~', '~', SPELLED, 1, mark=2, accent=3),
                                     rule('^', '^', SPELLED, 1, mark=3, accent=2))]
        self.part('a1*b', '@', 2, *told)
        self.part('a1*a', '@', 1, *told)
        self.part('@', 'a1*c', 1, *told)
        self.part('@', 'a1#b', 1, *told)
        self.part('@', 'a2*b', 1, *told)
        self.part('@', '~', 2, *told)
        self.part('@', '^', 3, *told)
        self.alike('@1', "@'1", *told)

    def test_only_letters_of_what_is_spelled_have_accent_and_mark(self):
        told = [spell('1*'), rules(*HOUSE_RULES, rule('@', '@', SPELLED, 1, mark=2, accent=2))]
        self.alike('1*', '@', *told)
        self.part('@a', '1*\xe1', 2, *told)
        self.part('@a', '1*A', 3, *told)

    def test_a_number_goes_across_the_end_of_what_is_spelled(self):
        told = [spell('a1'), spell('2b'), rules(*HOUSE_RULES, rule('@', '@', SPELLED, 1), rule('~', '~', SPELLED, 2))]
        self.alike('@2', 'a12', *told)
        self.alike('@~', 'a12b', *told)
        self.alike("@'~", 'a12b', *told)
        self.alike('1~', '12b', *told)
        self.part('a2', '@~', 1, *told)
        self.part('@ ~', '@~', 1, *told)

    def test_a_spelled_digit_of_one_character(self):
        told = [spell('1'), spell('0'), rules(*HOUSE_RULES, rule('@', '@', SPELLED, 1), rule('~', '~', SPELLED, 2))]
        self.alike('@~@', '101', *told)

    def test_all_characters_of_the_rule_are_spelled_alike(self):
        told = [spell('wxyz'), rules(*HOUSE_RULES[:8], rule(1000, 2000, SPELLED, 1))]
        self.alike([1000], 'wxyz', *told)
        self.alike([2000], 'wxyz', *told)
        self.alike([1500, 1501], 'wxyzwxyz', *told)

    def test_what_is_spelled_rises_by_its_own_rule(self):
        told = [spell('bd'), rules(*HOUSE_RULES[:8], rule(1000, 2000, SPELLED, 1))]
        self.alike([1003], 'bd', *told)

    def test_a_spelled_character_parts_no_words(self):
        self.alike('b\xe6b', "b\xe6'b")
        self.part('b aeb', 'b\xe6b', 1)


class ArticleTest(OrderCase):
    def test_in_front_of_another_word_it_is_left_out(self):
        for way in (0, 1):
            self.kept = house(way) + [article('the')]
            self.part('the apple', 'bee', 1)
            self.alike('the bee', 'bee')
            self.alike(' -the-bee', 'bee')

    def test_without_another_word_it_stays(self):
        self.part('bee', 'the', 1, article('the'))
        self.part('bee', ' the ', 1, article('the'))
        self.alike('the', ' the -', article('the'))

    def test_one_article_alone_is_left_out(self):
        self.part('a', 'the the a', 1, article('the'))
        self.alike('the the a', "th'e a", article('the'))
        self.part('the a b', 'a b', 1, article('the'), article('a'))

    def test_only_the_first_word_is_left_out(self):
        self.part('a b', 'a the b', 1, article('the'))
        self.part('a b', 'b the', 1, article('the'))

    def test_it_is_one_character_by_character(self):
        self.part('bee', 'The ant', 1, article('the'))
        self.part('bee', "th'e ant", 1, article('the'))
        self.part('bee', 'them ant', 1, article('the'))
        self.part('bee', 'th ant', 1, article('the'))
        self.alike("l' ant", 'ant', article("l'"))

    def test_any_of_the_articles(self):
        told = [article('the'), article('The'), article('un')]
        for text in ('the bee', 'The bee', 'un bee'):
            self.alike(text, 'bee', *told)

    def test_the_other_word_may_be_one_without_units(self):
        self.alike("the '", '', article('the'))
        self.alike("the !", '', article('the'))

    def test_a_first_word_without_units_is_a_word(self):
        self.part('bee', "' the ant", 1, article('the'))
        self.alike("' the ant", "th'e ant", article("'"))

    def test_what_is_left_out_has_no_accents_and_no_marks(self):
        told = [article('TH\xc9'), article('\xe1')]
        self.part('\xe1 b', 'B', 3, *told)
        self.alike('\xe1 b', 'b', *told)
        self.part('\xe1 e', '\xe9', 2, *told)
        self.alike('A e', 'e', article('A'))

    def test_it_is_left_out_before_turns(self):
        self.alike('the bee', 'bee', turn('the', 'x', 1), article('the'))
        self.part('bee', 'y ant', 1, turn('y', 'the', 1), article('the'))

    def test_characters_of_a_left_out_article_count_at_level_4(self):
        self.part('bee', 'the bee', 4, article('the'))
        self.part('a bee', 'the bee', 4, article('the'), article('a'))


class TurnTest(OrderCase):
    def test_the_beginning_of_a_word_is_turned(self):
        for way in (0, 1):
            self.kept = house(way)
            self.alike('mcdonald', 'macdonald', turn('mc', 'mac'))
            self.alike('mc', 'mac', turn('mc', 'mac'))

    def test_each_word_is_turned(self):
        self.alike('mca mcb xmc', 'maca macb xmc', turn('mc', 'mac'))
        self.part('a xmac', 'a xmc', 1, turn('mc', 'mac'))

    def test_a_turn_of_whole_words_turns_whole_words(self):
        told = [turn('st', 'saint', 1)]
        self.alike('st john', 'saint john', *told)
        self.alike('john st', 'john saint', *told)
        self.part('sa', 'sta', 1, *told)
        self.part('saintz', 'sta', 1, *told)
        self.part("saintz", "st'", 1, *told)
        self.part('s', 'saint', 1, *told)

    def test_the_first_that_fits_is_taken(self):
        self.alike('mcx', 'bx', turn('mc', 'b'), turn('m', 'c'))
        self.alike('mcx', 'ccx', turn('m', 'c'), turn('mc', 'b'))
        self.alike('mcx', 'bx', turn('mc', 'a', 1), turn('mc', 'b'), turn('mcx', 'd', 1))
        self.alike('mc', 'a', turn('mc', 'a', 1), turn('mc', 'b'))
        self.alike('mc', 'b', turn('mc', 'b'), turn('mc', 'a', 1))

    def test_a_word_is_turned_once(self):
        for told in ([turn('x', 'y'), turn('y', 'z')], [turn('y', 'z'), turn('x', 'y')]):
            self.part('xb', 'yb', 1, *told)
            self.alike('xb', "'yb", *told)
            self.alike('yb', 'zb', *told)

    def test_a_turn_whose_t_begins_with_its_f(self):
        self.alike('xc', "'xxc", turn('x', 'xx'))
        self.alike('xxc', "'xxxc", turn('x', 'xx'))
        self.alike('xx', 'yx', turn('x', 'y'))

    def test_a_longer_f_than_the_word_does_not_fit(self):
        self.part('mb', 'mz', 1, turn('mza', 'a'))
        self.part('m', 'mz', 1, turn('mzz', 'a'))

    def test_it_goes_by_characters(self):
        self.part('macdonald', 'Mcdonald', 1, turn('mc', 'mac'))
        self.part('macdonald', "m'cdonald", 1, turn('mc', 'mac'))
        self.alike("'xb", 'yb', turn("'x", 'y'))

    def test_gaps_in_what_it_brings_are_nothing(self):
        for way in (0, 1):
            self.kept = house(way)
            self.alike('etc', 'etcetera', turn('etc', 'et cetera', 1))
            self.alike('x', '12', turn('x', '1 2'))
            self.alike('x2', '12', turn('x', '1-'))
            self.alike('x b', 'b', turn('x', ' -'))
        self.kept = house()
        self.part('et cetera', 'etc', 1, turn('etc', 'et cetera', 1))

    def test_gaps_in_f_never_fit(self):
        self.part('a b', 'a c', 1, turn('a b', 'z'))

    def test_what_it_brings_may_be_spelled_and_numbers_grow(self):
        self.alike('x', '\xe6', turn('x', '\xe6'))
        self.alike('x3', '123', turn('x', '12'))
        self.alike("x", '', turn('x', "'"))

    def test_accents_and_marks_are_of_what_it_brings(self):
        self.part('e', 'x', 2, turn('x', '\xe9'))
        self.part('e', 'x', 3, turn('x', 'E'))
        self.alike('\xe9', 'e', turn('\xe9', 'e'))

    def test_what_is_behind_f_stays(self):
        self.part('bac', 'xad', 1, turn('x', 'b'))
        self.part('bab', 'xac', 1, turn('x', 'b'))
        self.alike('xac', 'bac', turn('x', 'b'))


class HouseTest(OrderCase):
    def test_a_row_of_headings(self):
        headings = ['*star', '9 lives', '10 lives', "A'a", '\xe6on', 'aeons', 'the apple', 'mcadam', 'macbeth',
                    'new york', 'newark', 'st john', 'sainta', 'the']
        more = [article('the'), turn('mc', 'mac'), turn('st', 'saint', 1)]
        for one, other in itertools.combinations(headings, 2):
            self.part(one, other, 1, *more)

    def test_every_level_both_ways(self):
        pairs = {1: ('a', 'b'), 2: ('E', '\xe9'), 3: ("a'", 'A'), 4: ('a', "a'")}
        for way in (0, 1):
            self.kept = house(way)
            for level, (one, other) in pairs.items():
                self.part(one, other, level)


class OneOrderTest(unittest.TestCase):
    """Any two texts have one order: it turns round with its texts, and goes through a third one."""

    def codes(self):
        for way in (0, 1):
            yield house(way) + [article('a'), article('\xe6'), turn('ab', 'A 1'), turn('a', '\xe62', 1), turn("'", 'b')]

    def texts(self):
        chosen = random.Random(20)
        return sorted({''.join(chosen.choices("abAB12* '\xe1\xe6", k=chosen.randrange(6))) for made in range(40)})

    def test_it_turns_round_with_its_texts_and_goes_through_a_third(self):
        texts = self.texts()
        for code in self.codes():
            told = {}
            for one in texts:
                answers_of_one = ask(*code, *[order(one, other) for other in texts])[len(code):]
                for other, answer in zip(texts, answers_of_one):
                    told[one, other] = answer[1]
            for one, other in itertools.product(texts, texts):
                self.assertEqual(told[one, other], -told[other, one])
                self.assertEqual(told[one, other] == 0, one == other)
            before = {one: sum(told[other, one] < 0 for other in texts) for one in texts}
            self.assertEqual(sorted(before.values()), list(range(len(texts))))
            for one, other in itertools.product(texts, texts):
                self.assertEqual(told[one, other] < 0, before[one] < before[other])

    def test_of_three_in_order_the_outer_two_part_at_the_earlier_level(self):
        texts = self.texts()[:20]
        for code in self.codes():
            pairs = list(itertools.product(texts, texts))
            told = {}
            for at in range(0, len(pairs), 200):
                asked = [order(one, other) for one, other in pairs[at:at + 200]]
                told.update(zip(pairs[at:at + 200], [answer[1] for answer in ask(*code, *asked)[len(code):]]))
            for one, two, three in itertools.product(texts, texts, texts):
                if told[one, two] < 0 and told[two, three] < 0:
                    self.assertEqual(told[one, three], max(told[one, two], told[two, three]))


if __name__ == '__main__':
    unittest.main()
