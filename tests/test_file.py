"""file: the numbers of texts, in order."""

import random
import unittest

from tests.helper import DIGIT, SPELLED
from tests.helper import article, ask, begin, file, house, last, order, rule, rules, spell, turn


class FileTest(unittest.TestCase):
    def files(self, texts, *more, way=0):
        """The texts stand in order here; so they are to stand again however they are handed over."""
        chosen = random.Random(len(texts))
        for shuffled in (texts, texts[::-1], chosen.sample(texts, len(texts))):
            told = last(*house(way), *more, file(shuffled))
            self.assertEqual(told[0], 0)
            self.assertEqual([shuffled[number] for number in told[1:]], texts)

    def test_no_text(self):
        self.assertEqual(ask(file([])), [[0]])
        self.assertEqual(last(*house(1), file([])), [0])

    def test_one_text(self):
        self.assertEqual(ask(file(['']), file(['a'])), [[0, 0], [0, 0]])

    def test_numbers_are_those_of_the_row_handed_over(self):
        self.assertEqual(last(*house(), file(['c', 'a', 'd', 'b'])), [0, 1, 3, 0, 2])

    def test_of_the_same_texts_the_lesser_number_comes_first(self):
        self.assertEqual(ask(file(['a'] * 5)), [[0, 0, 1, 2, 3, 4]])
        self.assertEqual(last(*house(), file(['b', 'a', 'b', 'a', 'A', 'b'])), [0, 1, 3, 4, 0, 2, 5])
        self.assertEqual(ask(file(['', 'a', ''])), [[0, 0, 2, 1]])

    def test_texts_that_part_at_level_1(self):
        self.files(['', '*', '9', '10', 'a', 'ab', 'b'])

    def test_word_by_word_and_right_through(self):
        self.files(['new', 'new york', 'new zealand', 'newark', 'news'])
        self.files(['new', 'newark', 'news', 'new york', 'new zealand'], way=1)

    def test_texts_that_part_at_level_2(self):
        self.files(['aee', 'ae\xe9', 'a\xe9e', '\xe1ee'])

    def test_texts_that_part_at_level_3(self):
        self.files(['abc', 'abC', 'aBc', 'Abc', 'ABC'])

    def test_texts_that_part_at_level_4(self):
        self.files(["a  b", "a b", "a'-b", "a--b", "a-b"])

    def test_texts_that_part_at_all_levels(self):
        for way in (0, 1):
            self.files(['cafe', "cafe'", 'Cafe', 'CAFE', 'caf\xe9', 'Caf\xe9', "Caf\xe9'", 'cafes'], way=way)

    def test_articles_turns_and_what_is_spelled(self):
        self.files(['a bee', 'aeon', '\xe6on', 'bee', 'the bee', 'macbeth', 'mcbeth', 'mccoy', 'the'],
                   article('the'), turn('mc', 'mac'))

    def test_numbers_by_value(self):
        self.files(['9', '10', '99', '100', str(2 ** 64 - 1), str(2 ** 64), str(2 ** 64 + 1), 'a9', 'a10'])

    def test_a_new_object_goes_by_the_characters_alone(self):
        for way in ([], [begin(0)], [begin(1)]):
            self.assertEqual(last(*way, file(['b', 'a', '', 'A', 'ab'])), [0, 2, 3, 1, 4, 0])

    def test_it_is_the_order_that_order_tells(self):
        chosen = random.Random(7)
        texts = [''.join(chosen.choices("abAB12* '\xe1\xe6", k=chosen.randrange(7))) for made in range(100)]
        for way in (0, 1):
            code = house(way) + [article('a'), turn('ab', 'A 1'), turn('a', '\xe62', 1)]
            filed = last(*code, file(texts))[1:]
            self.assertEqual(sorted(filed), list(range(100)))
            pairs = list(zip(filed, filed[1:]))
            told = ask(*code, *[order(texts[one], texts[other]) for one, other in pairs])[len(code):]
            for (one, other), answer in zip(pairs, told):
                self.assertTrue(answer[1] < 0 or answer[1] == 0 and one < other, (texts[one], texts[other]))

    def test_4096_texts_are_taken(self):
        texts = [[number * 2741 % 4096] for number in range(4096)]
        told = last(file(texts))
        self.assertEqual(told[0], 0)
        self.assertEqual([texts[number] for number in told[1:]], [[number] for number in range(4096)])
        self.assertEqual(ask(file([[]] * 4096)), [[0] + list(range(4096))])

    def test_4097_texts_are_refused(self):
        self.assertEqual(ask(file([[]] * 4097), file([[1]] * 4097), file([[]] * 4100)), [[-1]] * 3)

    def test_256_characters_are_taken(self):
        self.assertEqual(ask(file([[2] * 256, [1] * 256])), [[0, 1, 0]])

    def test_257_characters_are_refused(self):
        long = [1] * 257
        self.assertEqual(ask(file([long]), file([[], long]), file([long, []]), file([[5]] * 119 + [[2] * 260])),
                         [[-10]] * 4)

    def test_of_two_refusals_the_first_is_told(self):
        self.assertEqual(ask(file([[]] * 4097 + [[1] * 257]), file([[1] * 257] + [[]] * 4096)), [[-10]] * 2)

    def test_refused_rows_change_nothing(self):
        asked = [file(['b', 'A']), order('b', 'A')]
        told = ask(*house(), *asked, file([[]] * 4097), *asked, file([[1] * 257]), *asked, spell('x'))
        self.assertEqual(told[3:], [[0, 1, 0], [0, 1], [-1], [0, 1, 0], [0, 1], [-10], [0, 1, 0], [0, 1], [0, 1]])

    def test_120_long_texts(self):
        texts = [[ord('a') + (number * 37 % 120) % 26] * 100 + [ord('9')] * (number * 37 % 120) for number in range(120)]
        told = last(*house(), file(texts))[1:]
        self.assertEqual(told, sorted(range(120), key=lambda number: (texts[number][0], len(texts[number]))))

    def test_the_largest_numbers(self):
        told = [spell('9999'), rules(rule('0', '9', DIGIT, 0, 1), rule('x', 'x', SPELLED, 1))]
        texts = ['x' * 256, 'x' * 255 + '9', '1' + '0' * 255, 'x' * 64]
        self.assertEqual(last(*house(), *told, file(texts)), [0, 2, 3, 1, 0])


if __name__ == '__main__':
    unittest.main()
