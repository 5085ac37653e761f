"""The interface: how calls are handed in and answers told, and nothing changed or kept."""

import unittest

from indexfile.desk import answers
from tests.helper import GREATEST, HOUSE_RULES, article, ask, begin, house, order, rule, rules, spell, turn


class Sealed(list):
    """A list that can't be changed, not for a while either."""

    def refuse(self, *given, **named):
        raise AssertionError('what was handed in was changed')

    append = extend = insert = pop = remove = clear = reverse = sort = refuse
    __setitem__ = __delitem__ = __iadd__ = __imul__ = refuse


def joined(calls):
    return [number for one in calls for number in one]


EVERY_CALL = joined([
    begin(1), begin(2), spell('ae'), spell(''), turn('mc', 'mac', 0), turn('mc', '', 0),
    article('the'), article(''), rules(*HOUSE_RULES), rules(rule(2, 1, 3)),
    order('a', 'b'), order('b', 'a'), order('a', 'a'), order([1] * 257, []),
])


class AnswersTest(unittest.TestCase):
    def test_no_calls_no_answers(self):
        handed = []
        self.assertEqual(answers(handed), [])
        self.assertEqual(handed, [])

    def test_each_call_as_it_is_written_out(self):
        calls = [1, 1, 1, 0]
        calls += [2, 0, 1, 2, 97, 101]
        calls += [3, 1, 0, 2, 1, 98, 2, 98, 97]
        calls += [4, 0, 1, 3, 116, 104, 101]
        calls += [5, 0, 1, 7, 97, 122, 0, 1, 0, 0, 1]
        calls += [6, 0, 2, 1, 97, 1, 99]
        self.assertEqual(answers(calls), [2, 0, 0, 2, 0, 0, 2, 0, 0, 2, 0, 0, 2, 0, 0, 2, 0, -1])

    def test_answers_and_refusals_stand_one_behind_another(self):
        self.assertEqual(answers(EVERY_CALL), joined([
            [2, 0, 0], [1, -1], [2, 0, 0], [1, -1], [2, 0, 0], [1, -1],
            [2, 0, 0], [1, -1], [2, 0, 0], [2, -3, 0],
            [2, 0, -1], [2, 0, 1], [2, 0, 0], [1, -10],
        ]))

    def test_what_is_handed_in_stays_the_same(self):
        handed = list(EVERY_CALL)
        answers(handed)
        self.assertEqual(handed, EVERY_CALL)

    def test_what_is_handed_in_is_not_changed_for_a_while_either(self):
        self.assertEqual(answers(Sealed(EVERY_CALL)), answers(list(EVERY_CALL)))

    def test_what_is_given_back_is_a_list_of_whole_numbers(self):
        told = answers(EVERY_CALL)
        self.assertIs(type(told), list)
        self.assertEqual({type(number) for number in told}, {int})

    def test_nothing_is_kept_from_one_time_to_the_next(self):
        first = answers(EVERY_CALL)
        self.assertEqual(answers(EVERY_CALL), first)
        self.assertEqual(ask(order('a', 'b')), [[0, -4]])
        self.assertEqual(ask(spell('x'), turn('x', 'y'), article('x')), [[0, 0]] * 3)

    def test_answers_changed_by_the_asker_change_no_later_answers(self):
        told = answers(EVERY_CALL)
        expected = list(told)
        told.clear()
        self.assertEqual(answers(EVERY_CALL), expected)

    def test_three_hundred_calls(self):
        self.assertEqual(ask(*[order([5], [GREATEST])] * 300), [[0, -4]] * 300)

    def test_thirty_thousand_numbers(self):
        many = [rule(number, GREATEST - number, 0, 1 + number) for number in range(1024)]
        text = list(range(2000, 2250))
        asked = [begin(0), rules(*many)] + [order(text, text[:-1])] * 44
        self.assertEqual(ask(*asked), [[0, 0]] * 2 + [[0, 1]] * 44)

    def test_one_order_whatever_else_was_asked(self):
        asked = order('Mac Coy', 'm\xe1c coy')
        alone = ask(*house(), asked)[-1]
        self.assertEqual(alone, [0, -2])
        told = ask(*house(), order('x', 'y'), asked, begin(2), rules(rule(2, 1, 0)), asked, order('M', "'"), asked)
        self.assertEqual([told[4], told[7], told[9]], [alone] * 3)


if __name__ == '__main__':
    unittest.main()
