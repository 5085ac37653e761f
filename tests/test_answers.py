"""The interface: how calls are handed in and answers told, and nothing changed or kept."""

import random
import unittest

from indexfile.desk import answers
from tests.helper import GREATEST, HOUSE_RULES
from tests.helper import article, ask, begin, begins, file, group, house, order, rule, rules, seek, spell, turn


class Sealed(list):
    """A list that can't be changed, not for a while either."""

    def refuse(self, *given, **named):
        raise AssertionError('what was handed in was changed')

    append = extend = insert = pop = remove = clear = reverse = sort = refuse
    __setitem__ = __delitem__ = __iadd__ = __imul__ = refuse


def joined(calls):
    return [number for one in calls for number in one]


EVERY_CALL = joined([
    begin(1), begin(2), spell('ae'), spell(''), turn('mc', 'mac', 0), turn('mc', '', 0),
    article('the'), article(''), rules(*HOUSE_RULES), rules(rule(2, 1, 3)),
    order('a', 'b'), order('b', 'a'), order('a', 'a'), order([1] * 257, []),
    begins('a', 'ab'), begins('b', 'ab'), begins([1] * 257, []), group('b'), group([1] * 257),
    file(['b', 'a', 'b']), file([]), file([[1] * 257]), file([[]] * 4097),
    seek(['a', 'b', 'ba'], 'b'), seek([], 'b'), seek(['b', 'a'], 'b'), seek([[]] * 4097, ''), seek([], [1] * 257),
])


class AnswersTest(unittest.TestCase):
    def test_no_calls_no_answers(self):
        handed = []
        self.assertEqual(answers(handed), [])
        self.assertEqual(handed, [])

    def test_each_call_as_it_is_written_out(self):
        calls = [1, 1, 1, 0]
        calls += [2, 0, 1, 2, 97, 101]
        calls += [3, 1, 0, 2, 1, 98, 2, 98, 97]
        calls += [4, 0, 1, 3, 116, 104, 101]
        calls += [5, 0, 1, 7, 97, 122, 0, 1, 0, 0, 1]
        calls += [6, 0, 2, 1, 97, 1, 99]
        calls += [7, 0, 2, 1, 98, 3, 98, 97, 97]
        calls += [8, 0, 1, 2, 99, 97]
        calls += [9, 0, 3, 1, 99, 0, 2, 97, 97]
        calls += [10, 0, 4, 1, 99, 0, 1, 99, 2, 99, 97]
        told = [2, 0, 0, 2, 0, 0, 2, 0, 0, 2, 0, 0, 2, 0, 0, 2, 0, -1]
        told += [2, 0, 1, 2, 0, 5, 4, 0, 1, 2, 0, 3, 0, 1, 3]
        self.assertEqual(answers(calls), told)

    def test_answers_and_refusals_stand_one_behind_another(self):
        self.assertEqual(answers(EVERY_CALL), joined([
            [2, 0, 0], [1, -1], [2, 0, 0], [1, -1], [2, 0, 0], [1, -1],
            [2, 0, 0], [1, -1], [2, 0, 0], [2, -3, 0],
            [2, 0, -1], [2, 0, 1], [2, 0, 0], [1, -10],
            [2, 0, 1], [2, 0, 0], [1, -10], [2, 0, 4], [1, -10],
            [4, 0, 1, 0, 2], [1, 0], [1, -10], [1, -1],
            [3, 0, 1, 3], [3, 0, 0, 0], [1, -3], [1, -1], [1, -10],
        ]))

    def test_what_is_handed_in_stays_the_same(self):
        handed = list(EVERY_CALL)
        answers(handed)
        self.assertEqual(handed, EVERY_CALL)

    def test_what_is_handed_in_is_not_changed_for_a_while_either(self):
        self.assertEqual(answers(Sealed(EVERY_CALL)), answers(list(EVERY_CALL)))

    def test_what_is_given_back_is_a_list_of_whole_numbers(self):
        told = answers(EVERY_CALL)
        self.assertIs(type(told), list)
        self.assertEqual({type(number) for number in told}, {int})

    def test_nothing_is_kept_from_one_time_to_the_next(self):
        first = answers(EVERY_CALL)
        self.assertEqual(answers(EVERY_CALL), first)
        self.assertEqual(ask(order('a', 'b')), [[0, -4]])
        self.assertEqual(ask(spell('x'), turn('x', 'y'), article('x')), [[0, 0]] * 3)

    def test_answers_changed_by_the_asker_change_no_later_answers(self):
        told = answers(EVERY_CALL)
        expected = list(told)
        told.clear()
        self.assertEqual(answers(EVERY_CALL), expected)

    def test_three_hundred_calls(self):
        self.assertEqual(ask(*[order([5], [GREATEST])] * 300), [[0, -4]] * 300)

    def test_thirty_thousand_numbers(self):
        many = [rule(number, GREATEST - number, 0, 1 + number) for number in range(1024)]
        text = list(range(2000, 2250))
        asked = [begin(0), rules(*many)] + [order(text, text[:-1])] * 44
        self.assertEqual(ask(*asked), [[0, 0]] * 2 + [[0, 1]] * 44)

    def test_three_hundred_calls_of_every_kind(self):
        asked = [begins('a', 'A'), group('b'), file(['b', 'a']), seek(['a', 'b'], 'b'), order('a', 'b')] * 59
        told = ask(*house(), *asked, begin(0), spell('ae'))
        self.assertEqual(told[3:-2], [[0, 1], [0, 4], [0, 1, 0], [0, 1, 2], [0, -1]] * 59)
        self.assertEqual(len(told), 300)

    def test_thirty_thousand_numbers_of_texts(self):
        short = [[ord('a') + number % 26] for number in range(4096)]
        filed = sorted(range(4096), key=lambda number: number % 26)
        told = ask(*house(), file(short), file(short), seek([short[number] for number in filed], 'c'))
        self.assertEqual(told[3:], [[0] + filed] * 2 + [[0, 316, 474]])


def questions():
    return [
        order('Mac Coy', 'm\xe1c coy'), begins('Mac c', 'm\xe1c coy'), group('m\xe1c coy'),
        file(['m\xe1c coy', 'mab', 'Mac Coy']), seek(['mab', 'Mac Coy', 'm\xe1c coy'], 'mac c'),
    ]


REFUSED = {
    'begin': (begin(2), [-1]), 'spell': (spell(''), [-1]), 'turn': (turn('m', 'b', 2), [-1]),
    'article': (article('m' * 17), [-1]), 'rules': (rules(rule('m', 'm', 3), rule(2, 1, 0)), [-3, 1]),
    'too many rules': (rules(*[rule('m', 'm', 3)] * 1025), [-1]), 'order': (order('m' * 257, ''), [-10]),
    'begins': (begins('', 'm' * 257), [-10]), 'group': (group('m' * 257), [-10]),
    'file': (file(['m'] * 4097), [-1]), 'file of a long text': (file(['m' * 257]), [-10]),
    'seek': (seek(['m'] * 4097, ''), [-1]), 'seek for a long text': (seek([], 'm' * 257), [-10]),
    'seek in a row that is not filed': (seek(['n', 'm'], ''), [-3]),
}


class OneOrderTest(unittest.TestCase):
    """Whatever else was asked, and refused, before and behind: the answers are the same."""

    expected = [[0, -2], [0, 1], [0, 15], [0, 1, 2, 0], [0, 1, 3]]

    def told(self, *calls):
        return ask(*house(), *calls)[3:]

    def test_alone(self):
        for asked, answer in zip(questions(), self.expected):
            self.assertEqual(self.told(asked), [answer])

    def test_in_any_order(self):
        chosen = random.Random(8)
        for made in range(20):
            numbers = chosen.choices(range(5), k=30)
            told = self.told(*[questions()[number] for number in numbers])
            self.assertEqual(told, [self.expected[number] for number in numbers])

    def test_a_refused_call_among_others(self):
        for name, (refused, answer) in REFUSED.items():
            with self.subTest(name):
                self.assertEqual(self.told(refused, *questions()), [answer] + self.expected)
                told = self.told(*questions(), refused, *questions(), spell('x'), turn('x', 'y'), article('x'))
                self.assertEqual(told, self.expected + [answer] + self.expected + [[0, 1], [0, 0], [0, 0]])

    def test_all_refused_calls_together(self):
        small = [call for call in REFUSED.values() if len(call[0]) < 3000]
        told = self.told(*[one for refused, answer in small for one in [refused] + questions()])
        self.assertEqual(told, [one for refused, answer in small for one in [answer] + self.expected])

    def test_full_rows_among_others(self):
        full = [turn('q', 'r')] * 64 + [article('q')] * 32
        told = self.told(*full, turn('m', 'b'), article('mac'), *questions())
        self.assertEqual(told[96:], [[-2], [-2]] + self.expected)
        told = ask(*house(), *[spell('ae')] * 255, spell('b'), *questions())
        self.assertEqual(told[-6:], [[-2]] + self.expected)

    def test_each_change_of_the_code_counts_from_then_on(self):
        told = self.told(*questions(), turn('mab', 'x'), *questions()[2:], begin(0), *questions())
        self.assertEqual(told[:9], self.expected + [[0, 0], [0, 15], [0, 2, 0, 1], [-3]])
        self.assertEqual(told[9:], [[0, 0], [0, -4], [0, 1], [0, 0], [0, 2, 1, 0], [-3]])

    def test_a_second_time_is_as_the_first(self):
        handed = joined(house() + questions() + [one for one, answer in REFUSED.values() if len(one) < 3000])
        kept = list(handed)
        first = answers(handed)
        self.assertEqual(handed, kept)
        self.assertEqual(answers(handed), first)


if __name__ == '__main__':
    unittest.main()
