"""rules: when they are right, which refusal is told, what takes the place of what."""

import unittest

from tests.helper import DIGIT, GAP, GREATEST, LETTER, NOTHING, SIGN, SPELLED
from tests.helper import ask, begin, last, order, rule, rules, spell

RIGHT = rule('a', 'z', LETTER, 1, 1)
WRONG = rule(2, 1, GAP)


class RightRulesTest(unittest.TestCase):
    def right(self, *told):
        self.assertEqual(last(spell('ab'), rules(*told)), [0, 0])

    def wrong(self, told):
        self.assertEqual(last(spell('ab'), rules(RIGHT, told)), [-3, 1])

    def test_no_rules_are_right(self):
        self.right()

    def test_from_is_at_most_to(self):
        self.right(rule(5, 5, GAP), rule(0, GREATEST, GAP), rule(GREATEST, GREATEST, LETTER, 1))
        for kind in (LETTER, DIGIT, SIGN, GAP, NOTHING, SPELLED):
            self.wrong(rule(6, 5, kind, 1 if kind in (LETTER, SIGN) else 0))
            self.wrong(rule(GREATEST, 0, kind, 1 if kind in (LETTER, SIGN) else 0))

    def test_the_kind_is_at_most_5(self):
        self.right(RIGHT, rule(1, 1, SPELLED, 0))
        self.wrong(rule(1, 1, 6, 1))
        self.wrong(rule(1, 1, 7, 1))

    def test_the_least_weight_of_letters_and_signs(self):
        for kind in (LETTER, SIGN):
            self.right(rule(1, 9, kind, 1))
            self.right(rule(1, 9, kind, 1, 1))
            self.wrong(rule(1, 9, kind, 0))
            self.wrong(rule(1, 9, kind, 0, 1))

    def test_the_greatest_weight_of_letters_and_signs(self):
        for kind in (LETTER, SIGN):
            self.right(rule(0, GREATEST, kind, 65535))
            self.right(rule(0, 65534, kind, 1, 1))
            self.right(rule(GREATEST - 5, GREATEST, kind, 65530, 1))
            self.wrong(rule(0, 65535, kind, 1, 1))
            self.wrong(rule(7, 8, kind, 65535, 1))
            self.wrong(rule(0, GREATEST, kind, 1, 1))

    def test_the_greatest_value_of_digits(self):
        self.right(rule(0, GREATEST, DIGIT, 9))
        self.right(rule(0, 9, DIGIT, 0, 1))
        self.right(rule(5, 6, DIGIT, 8, 1))
        self.right(rule(5, 5, DIGIT, 9, 1))
        self.wrong(rule(5, 5, DIGIT, 10))
        self.wrong(rule(0, 10, DIGIT, 0, 1))
        self.wrong(rule(5, 6, DIGIT, 9, 1))

    def test_rise_is_0_above_signs(self):
        self.right(rule(5, 5, GAP), rule(6, 6, NOTHING), rule(7, 7, SPELLED), RIGHT)
        for kind in (GAP, NOTHING):
            self.wrong(rule(5, 5, kind, 0, 1))
            self.wrong(rule(5, 9, kind, 1, 1))
        self.wrong(rule(5, 5, SPELLED, 0, 1))

    def test_weights_of_gaps_and_of_nothing_are_free(self):
        self.right(rule(0, 9, GAP, 65535), rule(0, 9, NOTHING, 65535, mark=15, accent=255))

    def test_marks_and_accents_are_free(self):
        self.right(rule(0, 9, LETTER, 1, mark=15, accent=255), rule(0, 9, DIGIT, 1, mark=15, accent=255))

    def test_a_spelled_rule_needs_its_spelling(self):
        self.wrong(rule(1, 1, SPELLED, 1))
        self.wrong(rule(1, 1, SPELLED, 65535))
        self.assertEqual(ask(rules(RIGHT, rule(1, 1, SPELLED, 0))), [[-3, 1]])
        self.assertEqual(ask(spell('ab'), spell('ab'), rules(RIGHT, rule(1, 1, SPELLED, 1)))[-1], [0, 0])

    def test_each_spelled_character_goes_by_a_letter_digit_or_sign(self):
        spelled = rule(1, 1, SPELLED, 0)
        first = rule('a', 'a', LETTER, 1)
        for kind in (LETTER, DIGIT, SIGN):
            self.right(spelled, first, rule('b', 'b', kind, 1))
        for kind in (GAP, NOTHING, SPELLED):
            self.assertEqual(last(spell('ab'), rules(first, spelled, rule('b', 'b', kind, 0))), [-3, 1])
            self.assertEqual(last(spell('ba'), rules(first, spelled, rule('b', 'b', kind, 0))), [-3, 1])

    def test_a_spelled_character_of_no_rule_is_wrong(self):
        self.assertEqual(last(spell('ab'), rules(rule('a', 'a', LETTER, 1), rule(1, 1, SPELLED))), [-3, 1])
        self.assertEqual(last(spell('a'), rules(rule(1, 1, SPELLED))), [-3, 0])

    def test_a_spelled_character_goes_by_the_first_rule_that_it_is_of(self):
        spelled = rule(1, 1, SPELLED)
        self.right(spelled, RIGHT, rule('a', 'b', GAP))
        self.assertEqual(last(spell('ab'), rules(rule('b', 'b', GAP), RIGHT, spelled)), [-3, 2])

    def test_a_spelling_may_not_spell_itself(self):
        self.assertEqual(last(spell([1]), rules(rule(1, 1, SPELLED))), [-3, 0])
        self.assertEqual(last(spell('ab'), rules(rule('a', 'z', SPELLED), RIGHT)), [-3, 0])

    def test_all_four_spelled_characters_are_looked_at(self):
        for place in range(4):
            text = [1, 1, 1, 1]
            text[place] = 2
            told = last(spell(text), rules(rule(1, 1, LETTER, 1), rule(3, 3, SPELLED)))
            self.assertEqual(told, [-3, 1])

    def test_a_rule_of_a_kind_above_5_spells_nothing(self):
        self.assertEqual(last(spell('a'), rules(rule(1, 1, SPELLED), rule('a', 'a', 6, 1))), [-3, 0])

    def test_a_rule_with_from_behind_to_is_of_no_character(self):
        self.assertEqual(last(spell('a'), rules(rule(1, 1, SPELLED), rule('b', 'a', LETTER, 1))), [-3, 0])
        self.assertEqual(last(spell('a'), rules(rule(1, 1, SPELLED), rule('b', 'a', GAP), RIGHT)), [-3, 1])

    def test_a_wrong_letter_rule_does_not_make_what_it_spells_wrong(self):
        self.assertEqual(last(spell('a'), rules(rule(1, 1, SPELLED), rule('a', 'a', LETTER, 0))), [-3, 1])


class RulesCallTest(unittest.TestCase):
    def test_1024_rules_are_taken(self):
        self.assertEqual(ask(rules(*[RIGHT] * 1024)), [[0, 0]])

    def test_1025_rules_are_refused(self):
        self.assertEqual(ask(rules(*[RIGHT] * 1025)), [[-1]])
        self.assertEqual(ask(rules(*[RIGHT] * 1030)), [[-1]])

    def test_of_two_refusals_the_first_is_told(self):
        self.assertEqual(ask(rules(*[WRONG] * 1025)), [[-1]])

    def test_the_first_rule_that_is_not_right_is_told(self):
        self.assertEqual(last(rules(WRONG)), [-3, 0])
        self.assertEqual(last(rules(RIGHT, RIGHT, WRONG, WRONG)), [-3, 2])
        self.assertEqual(last(rules(RIGHT, rule(1, 1, 6), WRONG)), [-3, 1])
        self.assertEqual(last(rules(*[RIGHT] * 1023, WRONG)), [-3, 1023])

    def test_rules_that_no_character_goes_by_must_be_right_too(self):
        self.assertEqual(last(rules(RIGHT, rule('b', 'c', LETTER, 0))), [-3, 1])

    def test_they_stand_in_place_of_those_before(self):
        first = rules(rule('a', 'b', LETTER, 1, 1))
        second = rules(rule('c', 'd', LETTER, 1, 1))
        asked = [order('b', 'a'), order('d', 'c')]
        told = ask(first, *asked, second, *asked, rules(), *asked)
        self.assertEqual(told, [[0, 0], [0, 1], [0, 4], [0, 0], [0, 4], [0, 1], [0, 0], [0, 4], [0, 4]])

    def test_the_same_character_may_become_another_kind(self):
        asked = order('ba', 'a')
        told = ask(rules(RIGHT), asked, rules(rule('b', 'b', NOTHING), RIGHT), asked, rules(RIGHT), asked)
        self.assertEqual(told[1::2], [[0, 1], [0, 4], [0, 1]])

    def test_refused_rules_change_nothing(self):
        asked = order('b', 'a')
        told = ask(rules(RIGHT), asked, rules(rule('a', 'b', GAP), WRONG), asked, rules(*[WRONG] * 1025), asked)
        self.assertEqual(told, [[0, 0], [0, 1], [-3, 1], [0, 1], [-1], [0, 1]])

    def test_refused_rules_leave_spellings(self):
        spelled = rules(RIGHT, rule(1, 1, SPELLED))
        self.assertEqual(ask(spell('ab'), rules(WRONG), spelled), [[0, 0], [-3, 0], [0, 0]])

    def test_spellings_may_be_added_afterwards(self):
        spelled = rules(RIGHT, rule(1, 1, SPELLED))
        told = ask(spell('cd'), spelled, spell('x'), order([1], 'cd'), order([1], 'x'), spelled)
        self.assertEqual(told, [[0, 0], [0, 0], [0, 1], [0, -4], [0, -1], [0, 0]])

    def test_a_rule_does_not_find_a_spelling_that_comes_later(self):
        spelled = rules(RIGHT, rule(1, 1, SPELLED, 1))
        self.assertEqual(ask(spell('a'), spelled, spell('b'), spelled), [[0, 0], [-3, 1], [0, 1], [0, 0]])

    def test_rules_leave_the_way_alone(self):
        asked = order('b c', 'ba')
        gap = rule(' ', ' ', GAP)
        self.assertEqual(last(begin(1), rules(RIGHT, gap), rules(gap, RIGHT), asked), [0, 1])
        self.assertEqual(last(begin(0), rules(RIGHT, gap), rules(gap, RIGHT), asked), [0, -1])


class WhichRuleTest(unittest.TestCase):
    def same(self, told, one, other):
        self.assertIn(last(*told, order(one, other))[1], (-4, 0, 4))

    def test_a_rule_is_of_both_its_ends(self):
        told = [rules(rule(10, 20, LETTER, 5))]
        self.same(told, [10], [20])
        self.same(told, [15], [20])
        self.same(told, [9], [])
        self.same(told, [21], [])
        self.assertEqual(last(*told, order([10], [9])), [0, 1])
        self.assertEqual(last(*told, order([20], [21])), [0, 1])

    def test_a_rule_may_be_of_the_first_and_the_last_character_of_all(self):
        told = [rules(rule(0, 0, LETTER, 5), rule(GREATEST, GREATEST, LETTER, 4))]
        self.assertEqual(last(*told, order([0], [GREATEST])), [0, 1])
        self.assertEqual(last(*told, order([0], [1])), [0, 1])
        self.assertEqual(last(*told, order([GREATEST], [GREATEST - 1])), [0, 1])
        told = [rules(rule(0, GREATEST, LETTER, 5))]
        self.same(told, [0], [GREATEST])
        self.same(told, [77], [GREATEST])

    def test_characters_just_outside_a_rule_at_the_ends_of_all(self):
        told = [rules(rule(1, GREATEST - 1, LETTER, 5))]
        self.same(told, [0], [])
        self.same(told, [GREATEST], [])
        self.same(told, [1], [GREATEST - 1])
        self.assertEqual(last(*told, order([1], [0])), [0, 1])

    def test_a_character_of_several_rules_goes_by_the_first(self):
        told = [rules(rule(10, 20, LETTER, 5), rule(0, 30, LETTER, 6), rule(15, 40, LETTER, 7),
                      rule(0, 50, LETTER, 8), rule(1000, 1010, LETTER, 1, 1))]
        weights = {5: [10, 15, 20], 6: [0, 9, 21, 30], 7: [31, 40], 8: [41, 50]}
        for weight, of_that_weight in weights.items():
            for character in of_that_weight:
                self.same(told, [character], [1000 + weight - 1])
        self.same(told, [51], [])

    def test_a_character_of_no_rule_is_nothing(self):
        told = [rules(RIGHT)]
        self.assertEqual(last(*told, order('a!b', 'ab')), [0, -4])
        self.assertEqual(last(*told, order('!', '')), [0, 4])

    def test_the_weight_rises_from_the_first_character_on(self):
        told = [rules(rule(10, 20, LETTER, 3, 1), rule(100, 109, LETTER, 3))]
        self.same(told, [10], [100])
        self.same(told, [10], [109])
        self.assertEqual(last(*told, order([11], [100])), [0, 1])
        self.assertEqual(last(*told, order([11], [12])), [0, -1])

    def test_the_weight_rises_from_the_rule_s_own_first_character(self):
        told = [rules(rule(10, 12, GAP), rule(10, 20, LETTER, 1, 1), rule(100, 110, LETTER, 1, 1))]
        self.same(told, [13], [103])

    def test_two_rules_of_many_that_overlap(self):
        many = [rule(number, 2000 - number, LETTER, 2000 - number) for number in range(999, -1, -1)]
        told = [rules(*many, rule(5000, 7000, LETTER, 1, 1))]
        for character in (0, 1, 500, 998, 999, 1000, 1001, 1002, 1500, 1999, 2000):
            first = max(number for number in range(1000) if number <= character <= 2000 - number)
            self.same(told, [character], [5000 + 2000 - first - 1])


if __name__ == '__main__':
    unittest.main()
