"""begin: the code has that way and nothing else."""

import unittest

from tests.helper import GREATEST, LETTER, article, ask, begin, house, last, order, rule, rules, spell, turn


class BeginTest(unittest.TestCase):
    def test_both_ways_are_taken(self):
        self.assertEqual(ask(begin(0), begin(1)), [[0, 0], [0, 0]])

    def test_a_way_above_1_is_refused(self):
        self.assertEqual(ask(begin(2), begin(3), begin(GREATEST)), [[-1]] * 3)

    def test_a_new_object_has_no_rules(self):
        self.assertEqual(ask(order('b', 'a'), order('a', 'b'), order('', ' ')), [[0, 4], [0, -4], [0, -4]])

    def test_a_new_object_files_word_by_word(self):
        told = last(spell('ae'), house()[2], order('new york', 'newark'))
        self.assertEqual(told, [0, -1])

    def test_numbers_begin_again_from_0(self):
        kept = [spell('ae'), turn('a', 'b'), article('a')]
        told = ask(*kept, *kept, begin(0), *kept)
        self.assertEqual(told, [[0, 0]] * 3 + [[0, 1]] * 3 + [[0, 0]] * 4)

    def test_full_rows_are_empty_again(self):
        full = [turn('a', 'b')] * 64 + [article('a')] * 32
        told = ask(*full, turn('a', 'b'), article('a'), begin(0), turn('a', 'b'), article('a'))
        self.assertEqual(told[-5:], [[-2], [-2], [0, 0], [0, 0], [0, 0]])
        told = ask(*[spell('a')] * 257, begin(0), spell('a'))
        self.assertEqual(told[-3:], [[-2], [0, 0], [0, 0]])

    def test_rules_are_dropped(self):
        self.assertEqual(last(*house(), order('b', 'A')), [0, 1])
        self.assertEqual(last(*house(), begin(0), order('b', 'A')), [0, 4])

    def test_spellings_are_dropped(self):
        spelled = rules(rule('a', 'z', LETTER, 1, 1), rule(1, 1, 5, 0))
        self.assertEqual(ask(spell('ab'), spelled)[-1], [0, 0])
        self.assertEqual(ask(spell('ab'), begin(0), spelled)[-1], [-3, 1])

    def test_turns_are_dropped(self):
        told = ask(*house(), turn('b', 'y'), order('b', 'c'), *house(), order('b', 'c'))
        self.assertEqual([told[4], told[-1]], [[0, 1], [0, -1]])

    def test_articles_are_dropped(self):
        told = ask(*house(), article('the'), order('the a', 'b'), *house(), order('the a', 'b'))
        self.assertEqual([told[4], told[-1]], [[0, -1], [0, 1]])

    def test_the_way_is_dropped(self):
        told = ask(*house(1), order('new york', 'newark'), *house(0), order('new york', 'newark'))
        self.assertEqual([told[3], told[-1]], [[0, 1], [0, -1]])

    def test_a_refused_begin_changes_nothing(self):
        kept = house(1) + [turn('b', 'y'), article('the')]
        asked = [order('new york', 'newark'), order('b', 'c'), order('the a', 'b'), order('\xe6', 'ae')]
        told = ask(*kept, *asked, begin(2), *asked, begin(GREATEST), *asked, spell('a'), turn('a', 'b'), article('a'))
        self.assertEqual(told[5:9], [[0, 1], [0, 1], [0, -1], [0, 2]])
        self.assertEqual(told[9:], [[-1]] + told[5:9] + [[-1]] + told[5:9] + [[0, 1]] * 3)


if __name__ == '__main__':
    unittest.main()
