"""Words in letters: two books side by side, and the row of rules that tells what holds in both.

A word is a tuple of three parts, x, y and z, each with a number for each kind of deeds and one for everything.
"""

from heapq import heappop, heappush

from lawsleft.grounds import below, is_number, is_pair, key_of, plus
from lawsleft.normals import join_of, led, normal_by, overlapping
from lawsleft.paths import sides_of_fact

X = 0
Y = 1
Z = 2
PARTS = 3


def letters_of(kinds):
    """Return the letters of a part, each as the numbers of this part: one for each kind, then everything."""
    many = len(kinds) + 1
    return [(0,) * place + (1,) + (0,) * (many - 1 - place) for place in range(many)]


def word_of(part, numbers):
    """Return the word that has these numbers in one part, and no letter in the others."""
    many = len(numbers)
    return (0,) * (part * many) + numbers + (0,) * ((PARTS - 1 - part) * many)


def order_of(kinds, word):
    """Return what words are ordered by."""
    many = len(kinds)
    others = word[many + 1:]
    return (sum(others), others, key_of(kinds, word[:many]), word[many])


def letter_pairs(kinds, ones, twos):
    """Return the pairs of words that are like, for the facts of two books."""
    pairs = pairs_of_book(kinds, Y, ones) + pairs_of_book(kinds, Z, twos)
    for letter in letters_of(kinds):
        pairs.append((word_of(X, letter), plus(word_of(Y, letter), word_of(Z, letter))))
    return pairs


def pairs_of_book(kinds, part, given):
    """Return the pairs of words that are like by the facts of the book that is told in this part."""
    letters = letters_of(kinds)
    everything = letters[-1]
    pairs = []
    for fact in given:
        numbers = [everything if worth is None else worth + (0,) for worth in sides_of_fact(fact)]
        pairs.append((word_of(part, numbers[0]), word_of(part, numbers[1])))
    for letter in letters:
        pairs.append((word_of(part, plus(everything, letter)), word_of(part, everything)))
    return pairs


class Lettering:
    """A row in letters in the making.

    What waits to be looked at are words that are like, or the join of two rules with their numbers.
    """

    def __init__(self, kinds, pairs):
        self.kinds = kinds
        self.standing = []
        self.numbers = []
        self.many_came = 0
        self.waiting = []
        self.asked = 0
        self.unmet = {}
        for v, w in pairs:
            self.ask(join_of(v, w), (v, w), ())
        while self.waiting:
            _, _, join, words, numbers = heappop(self.waiting)
            if numbers == () or self.is_due(join, numbers):
                self.settle(words[0], words[1])

    def ask(self, great, words, numbers):
        """Let two words that are like wait; great is a word by which they are put in order.

        A letter of x stands for two others, so that it counts double: what is short is looked at first.
        """
        many = len(self.kinds) + 1
        self.asked += 1
        order = (sum(great) + sum(great[:many]), order_of(self.kinds, great))
        heappush(self.waiting, (order, self.asked, great, words, numbers))

    def is_due(self, join, numbers):
        """Whether two rules still have to be brought to meet at the join of their lefts.

        A third rule that fits there spares it, where it was looked at beside both of them already.
        """
        self.unmet.pop(numbers)
        one, two = numbers
        if one not in self.numbers or two not in self.numbers:
            return False
        for rule, other in zip(self.standing, self.numbers):
            if other != one and other != two and below(rule[0], join):
                if not self.waits(one, other) and not self.waits(two, other):
                    return False
        return True

    def waits(self, one, two):
        """Whether two rules were not yet looked at beside one another."""
        return (min(one, two), max(one, two)) in self.unmet

    def settle(self, v, w):
        """Bring two words that are like to one normal, by a further rule if it needs one."""
        one, two = normal_by(self.standing, v), normal_by(self.standing, w)
        if order_of(self.kinds, one) < order_of(self.kinds, two):
            self.stand(two, one)
        elif one != two:
            self.stand(one, two)

    def stand(self, left, right):
        """Let a further rule stand; ask what it takes back, and where it overlaps with others."""
        self.many_came += 1
        kept, kept_numbers = [], []
        for rule, other in zip(self.standing, self.numbers):
            if below(left, rule[0]):
                self.ask(rule[0], rule, ())
                continue
            kept.append(rule)
            kept_numbers.append(other)
            if overlapping(left, rule[0]):
                join = join_of(left, rule[0])
                self.unmet[(other, self.many_came)] = True
                words = (led(left, right, 1, join), led(rule[0], rule[1], 1, join))
                self.ask(join, words, (other, self.many_came))
        self.standing = kept + [(left, right)]
        self.numbers = kept_numbers + [self.many_came]

    def finished(self):
        """Return the row, whose rights are normals."""
        rules = [(order_of(self.kinds, left), left, normal_by(self.standing, right)) for left, right in self.standing]
        return tuple([(left, right) for _, left, right in sorted(rules)])


def letter_row(kinds, ones, twos):
    """Return the row in letters of the facts of two books."""
    return Lettering(kinds, letter_pairs(kinds, ones, twos)).finished()


def kept_of(kinds, row):
    """Return the rules about counts that a row in letters keeps."""
    many = len(kinds)
    if word_of(X, letters_of(kinds)[-1]) in [left for left, _ in row]:
        return (((0,) * many, None),)
    kept = [(left[:many], right) for left, right in row if sum(left[many:]) == 0]
    return tuple([(left, None if right[many] > 0 else right[:many]) for left, right in kept])


def is_letter_row(kinds, thing):
    """Whether thing is a tuple of rules about words, with rising lefts, each right less than its left."""
    if not isinstance(thing, tuple) or not all([is_pair_of_words(kinds, rule) for rule in thing]):
        return False
    ahead = None
    for left, right in thing:
        order = order_of(kinds, left)
        if order_of(kinds, right) >= order or (ahead is not None and ahead >= order):
            return False
        ahead = order
    return True


def is_pair_of_words(kinds, thing):
    """Whether thing is a pair of words."""
    return is_pair(thing) and all([is_word(kinds, word) for word in thing])


def is_word(kinds, thing):
    """Whether thing is a word."""
    if not isinstance(thing, tuple) or len(thing) != PARTS * (len(kinds) + 1):
        return False
    return all([is_number(number) and number >= 0 for number in thing])
