"""seek: from where to where the texts of a filed row begin as a question."""

import unittest

from tests.helper import GREATEST, article, ask, begin, begins, file, house, last, order, seek, spell, turn

ROW = ['', '*', '9', '10 a', '10a', 'a', 'new', 'New', 'new year', 'new york', 'new zealand', 'newark', 'newt', 'z']
ROW_RIGHT_THROUGH = ['', '*', '9', '10 a', '10a', 'a', 'new', 'New', 'newark', 'newt', 'new year', 'new york',
                     'new zealand', 'z']


class SeekCase(unittest.TestCase):
    def sought(self, texts, question, start, end, *more, way=0):
        self.assertEqual(last(*house(way), *more, seek(texts, question)), [0, start, end], (texts, question))


class StretchTest(SeekCase):
    def test_a_stretch_in_the_middle(self):
        self.sought(ROW, 'new', 6, 13)
        self.sought(ROW, 'new y', 8, 10)
        self.sought(ROW, 'new ye', 8, 9)
        self.sought(ROW, 'newa', 11, 12)
        self.sought(ROW, 'NEW', 6, 13)

    def test_a_stretch_in_the_middle_right_through(self):
        self.sought(ROW_RIGHT_THROUGH, 'new', 6, 13, way=1)
        self.sought(ROW_RIGHT_THROUGH, 'new y', 10, 12, way=1)
        self.sought(ROW_RIGHT_THROUGH, 'n ewy', 10, 12, way=1)
        self.sought(ROW_RIGHT_THROUGH, 'newa', 8, 9, way=1)

    def test_a_stretch_at_the_beginning_and_at_the_end(self):
        self.sought(['a', 'ab', 'b'], 'a', 0, 2)
        self.sought(['a', 'ab', 'b'], 'b', 2, 3)
        self.sought(['a', 'b', 'ba'], 'b', 1, 3)

    def test_all_begin_as_the_question(self):
        self.sought(['a', 'a b', 'ab'], 'a', 0, 3)
        for way, row in ((0, ROW), (1, ROW_RIGHT_THROUGH)):
            for question in ('', ' - ', "' '"):
                self.sought(row, question, 0, 14, way=way)

    def test_one_text(self):
        self.sought(['b'], 'b', 0, 1)
        self.sought(['b'], 'a', 0, 0)
        self.sought(['b'], 'c', 1, 1)
        self.sought(['b'], 'bb', 1, 1)
        self.sought(['b'], '', 0, 1)

    def test_the_same_text_several_times(self):
        self.sought(['a', 'b', 'b', 'b', 'c'], 'b', 1, 4)
        self.sought(['b'] * 5, 'b', 0, 5)
        self.sought(['b'] * 5, 'c', 5, 5)
        self.sought(['b'] * 5, 'a', 0, 0)

    def test_texts_that_are_the_same_at_level_1(self):
        self.sought(['b', "b'", 'B', "B'", 'b\xe9'], 'b', 0, 5)
        self.sought(['b', "b'", 'B', "B'", 'b\xe9'], 'be', 4, 5)
        self.sought(['b', "b'", 'B', "B'", 'b\xe9'], 'ba', 4, 4)
        self.sought(['e', 'E', '\xe9'], '\xe9', 0, 3)

    def test_numbers_are_begun_by_themselves_alone(self):
        self.sought(ROW, '1', 2, 2)
        self.sought(ROW, '10', 3, 5)
        self.sought(ROW, '100', 5, 5)
        self.sought(['1', '2', '12', '120'], '1', 0, 1)
        self.sought(['1', '2', '12', '120'], '12', 2, 3)

    def test_articles_and_turns_of_both(self):
        told = [article('the'), turn('mc', 'mac')]
        row = ['bee', 'the bee', 'macbeth', 'mcbeth', 'mccoy', 'the']
        self.sought(row, 'mc', 2, 5, *told)
        self.sought(row, 'the b', 0, 2, *told)
        self.sought(row, 'the', 5, 6, *told)

    def test_a_new_object(self):
        for way in ([], [begin(0)], [begin(1)]):
            self.assertEqual(last(*way, seek(['A', 'a', 'b'], 'z')), [0, 0, 3])


class NoneTest(SeekCase):
    def test_an_empty_row(self):
        for way in (0, 1):
            for question in ('', 'a', ' '):
                self.sought([], question, 0, 0, way=way)
        self.assertEqual(ask(seek([], ''), seek([], 'a')), [[0, 0, 0]] * 2)

    def test_how_many_come_before_it_at_level_1(self):
        self.sought(ROW[1:], '#', 1, 1)
        self.sought(ROW[1:], '0', 1, 1)
        self.sought(ROW, 'b', 6, 6)
        self.sought(ROW, 'newb', 12, 12)
        self.sought(ROW, 'zz', 14, 14)
        self.sought(['b', 'c'], 'a', 0, 0)

    def test_word_by_word(self):
        self.sought(ROW, 'new a', 8, 8)
        self.sought(ROW, 'new yz', 10, 10)
        self.sought(ROW, 'new york city', 10, 10)
        self.sought(ROW, 'newyork', 13, 13)

    def test_right_through(self):
        self.sought(ROW_RIGHT_THROUGH, 'new b', 9, 9, way=1)
        self.sought(ROW_RIGHT_THROUGH, 'new york city', 12, 12, way=1)
        self.sought(ROW_RIGHT_THROUGH, 'newz z', 13, 13, way=1)

    def test_level_1_alone_counts(self):
        self.sought(['E', '\xe9', 'f'], 'EA', 2, 2)
        self.sought(["a'", 'A', '\xe1'], 'A A', 3, 3)
        self.sought(["a'", 'A', '\xe1'], "'*", 0, 0)

    def test_where_a_longer_text_does_not_begin_as_it(self):
        self.sought(['abc', 'abd'], 'abcd', 1, 1)
        self.sought(['abc', 'abd'], 'abcd e', 1, 1)


class FiledTest(SeekCase):
    def not_filed(self, texts, *more, way=0):
        told = ask(*house(way), *more, seek(texts, ''), seek(texts, 'a'), seek(texts, 'zz'))
        self.assertEqual(told[-3:], [[-3]] * 3)

    def test_a_row_that_is_not_filed_is_refused(self):
        self.not_filed(['b', 'a'])
        self.not_filed(['a', 'b', 'a'])
        self.not_filed(['b', 'a', 'b'])
        self.not_filed(['a', 'c', 'b', 'd'])
        self.not_filed(['a', ''])

    def test_a_row_that_is_not_filed_at_a_later_level(self):
        self.not_filed(['\xe9', 'e'])
        self.not_filed(['\xe9', 'E'])
        self.not_filed(['E', 'e'])
        self.not_filed(["E", "e'"])
        self.not_filed(['a b', 'a  b'])
        self.not_filed(['a-b', 'a b'])
        self.not_filed(['1', '01'])

    def test_the_way_counts(self):
        self.not_filed(['newark', 'new york'], way=0)
        self.not_filed(['new york', 'newark'], way=1)
        self.sought(['newark', 'new york'], 'new', 0, 2, way=1)
        self.sought(['new york', 'newark'], 'new', 0, 2, way=0)

    def test_the_code_counts(self):
        self.not_filed(['the ant', 'bee'])
        self.sought(['the ant', 'bee'], 'b', 1, 2, article('the'))
        self.assertEqual(ask(seek(['b', 'A'], ''), seek(['A', 'b'], '')), [[-3], [0, 0, 2]])
        self.assertEqual(last(*house(), seek(['b', 'A'], '')), [-3])

    def test_the_last_two_texts_of_many_count(self):
        texts = [[number] for number in range(4095)]
        self.assertEqual(ask(seek(texts + [[4095]], ''), seek(texts + [[4093]], '')), [[0, 0, 4096], [-3]])

    def test_what_file_puts_in_order_is_filed(self):
        texts = ['z', 'new york', 'A', 'a', 'a', 'new', '10', '9', "a'", '\xe1', '']
        for way in (0, 1):
            filed = last(*house(way), file(texts))[1:]
            self.sought([texts[number] for number in filed], 'a', 3, 8, way=way)


class RefusalTest(unittest.TestCase):
    def test_4096_texts_are_taken(self):
        self.assertEqual(ask(seek([[]] * 4096, [])), [[0, 0, 4096]])
        texts = ['a'] * 1000 + ['b'] * 2000 + ['c'] * 1096
        self.assertEqual(ask(*house(), seek(texts, 'b'), seek(texts, 'bb'))[3:], [[0, 1000, 3000], [0, 3000, 3000]])

    def test_4097_texts_are_refused(self):
        self.assertEqual(ask(seek([[]] * 4097, []), seek([[1]] * 4097, [1]), seek([[]] * 4100, [])), [[-1]] * 3)

    def test_256_characters_are_taken(self):
        self.assertEqual(last(*house(), seek(['a' * 255, 'a' * 256], 'a' * 256)), [0, 1, 2])

    def test_257_characters_are_refused(self):
        long = [1] * 257
        told = ask(seek([], long), seek([[1]], long), seek([long], [1]), seek([[], long], []), seek([long, []], []),
                   seek([[1] * 260], [1] * 260))
        self.assertEqual(told, [[-10]] * 6)

    def test_of_several_refusals_the_first_is_told(self):
        long = [2] * 257
        not_filed = [[2], [1]]
        self.assertEqual(ask(seek(not_filed, long), seek([long] + not_filed, [])), [[-10]] * 2)
        self.assertEqual(ask(seek([[]] * 4097, long), seek(not_filed + [[]] * 4095, long)), [[-10]] * 2)
        self.assertEqual(ask(seek(not_filed + [[]] * 4095, [])), [[-1]])
        self.assertEqual(ask(seek(not_filed + [[]] * 4094, [])), [[-3]])

    def test_refused_rows_change_nothing(self):
        asked = [seek(['A', 'b'], 'a'), begins('a', 'A'), order('b', 'A')]
        for refused, answer in ((seek(['b', 'A'], 'a'), -3), (seek([[]] * 4097, ''), -1), (seek([], 'a' * 257), -10)):
            told = ask(*house(), *asked, refused, *asked, spell('x'))[3:]
            self.assertEqual(told[:3], [[0, 0, 1], [0, 1], [0, 1]])
            self.assertEqual(told[3:], [[answer]] + told[:3] + [[0, 1]])

    def test_the_greatest_characters(self):
        self.assertEqual(ask(seek([[0], [GREATEST]], [GREATEST]), seek([[GREATEST], [0]], [0])), [[0, 0, 2], [-3]])


if __name__ == '__main__':
    unittest.main()
