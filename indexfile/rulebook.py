"""Rules: which rule a character goes by, what it is by it, and whether rules are right."""

LETTER = 0
DIGIT = 1
SIGN = 2
GAP = 3
SPELLED = 5

NUMBERS_OF_A_RULE = 7
GREATEST_WEIGHT = 65535
GREATEST_DIGIT = 9


class Rule:
    def __init__(self, numbers):
        self.first = numbers[0]
        self.last = numbers[1]
        self.kind = numbers[2]
        self.rise = numbers[3]
        self.mark = numbers[4]
        self.accent = numbers[5]
        self.weight = numbers[6]

    def weight_at(self, character):
        return self.weight + self.rise * (character - self.first)


# A letter, a digit or a sign. Only a letter's accent and mark are ever asked for.
class Part:
    def __init__(self, kind, weight, accent, mark):
        self.kind = kind
        self.weight = weight
        self.accent = accent
        self.mark = mark


class RuleBook:
    def __init__(self, rules, spellings):
        self.rules = rules
        self.spellings = spellings
        self.starts = stretch_starts(rules)
        self.owners = stretch_owners(self.starts, rules)
        self.known = {}

    # A character of no rule is answered by None: it isn't wrong, it's nothing.
    def rule_of(self, character):
        low = 0
        high = len(self.starts)
        while high - low > 1:
            middle = (low + high) // 2
            if self.starts[middle] <= character:
                low = middle
            else:
                high = middle
        return self.owners[low]

    def is_gap(self, character):
        rule = self.rule_of(character)
        return rule is not None and rule.kind == GAP

    # Turns bring the same characters again and again, so what was found is remembered.
    def parts(self, character):
        if character not in self.known:
            self.known[character] = self.find_parts(character)
        return self.known[character]

    def find_parts(self, character):
        rule = self.rule_of(character)
        if rule is None:
            return ()
        if rule.kind == SPELLED:
            spelling = self.spellings[rule.weight]
            return tuple([make_part(self.rule_of(one), one, rule) for one in spelling])
        if rule.kind in (LETTER, DIGIT, SIGN):
            return (make_part(rule, character, rule),)
        return ()


# What is spelled has the accent and mark of the rule that spells it, so that rule is handed in by itself.
def make_part(rule, character, dress):
    return Part(rule.kind, rule.weight_at(character), dress.accent, dress.mark)


def read_rules(numbers):
    return [Rule(numbers[at:at + NUMBERS_OF_A_RULE]) for at in range(0, len(numbers), NUMBERS_OF_A_RULE)]


# Rules cut the characters into stretches, each with one rule or none all through.
# So a character's rule is found without going through all rules.
def stretch_starts(rules):
    starts = {0: True}
    for rule in rules:
        if rule.first <= rule.last:
            starts[rule.first] = True
            starts[rule.last + 1] = True
    return sorted(starts)


def stretch_owners(starts, rules):
    places = {}
    for place, start in enumerate(starts):
        places[start] = place
    owners = [None for start in starts]
    free = list(range(len(starts)))
    for rule in rules:
        if rule.first <= rule.last:
            end = places[rule.last + 1]
            place = next_free(free, places[rule.first])
            while place < end:
                owners[place] = rule
                free[place] = place + 1
                place = next_free(free, place)
    return owners


# The last stretch begins behind every rule, so it stays free and the way there ends.
# The way is shortened as it is gone: else many rules over one another would be slow.
def next_free(free, place):
    while free[place] != place:
        free[place] = free[free[place]]
        place = free[place]
    return place


def first_wrong_rule(book):
    for number, rule in enumerate(book.rules):
        if not is_right(book, rule):
            return number
    return None


def is_right(book, rule):
    if rule.first > rule.last or rule.kind > SPELLED:
        return False
    if rule.kind == DIGIT:
        return rule.weight_at(rule.last) <= GREATEST_DIGIT
    if rule.kind in (LETTER, SIGN):
        return rule.weight >= 1 and rule.weight_at(rule.last) <= GREATEST_WEIGHT
    if rule.kind == SPELLED and not can_be_spelled(book, rule.weight):
        return False
    return rule.rise == 0


def can_be_spelled(book, number):
    if number >= len(book.spellings):
        return False
    for character in book.spellings[number]:
        rule = book.rule_of(character)
        if rule is None or rule.kind not in (LETTER, DIGIT, SIGN):
            return False
    return True
