"""The making of the one row of some facts, with lemmas that show each of its rules."""

from heapq import heappop, heappush

from lawsleft.grounds import below, key_of
from lawsleft.normals import join_of, led, normal_and_steps, overlapping
from lawsleft.paths import sides_of_fact


class Making:
    """A row in the making: the rules that stand, and lemmas for all that ever came.

    What waits to be looked at is a triple (v, w, path): two worths that are like, v a count, and a
    path from v to w. The number of a rule is that of the lemma that shows it.
    """

    def __init__(self, ground, given):
        self.kinds = ground[1]
        self.many_facts = len(given)
        self.lemmas = []
        self.standing = []
        self.shown_by = []
        self.waiting = []
        self.asked = 0
        for number, fact in enumerate(given):
            v, w = sides_of_fact(fact)
            self.ask(v, w, ((number, 1, 1),))
        self.settle_all()

    def settle_all(self):
        """Go on until nothing waits."""
        while self.waiting:
            v, w, path = heappop(self.waiting)[2]
            self.settle(v, w, path)

    def ask(self, v, w, path):
        """Let two worths wait, those of lesser keys ahead of others."""
        great = key_of(self.kinds, v)
        if w is not None:
            great = max(great, key_of(self.kinds, w))
        self.asked += 1
        heappush(self.waiting, (great, self.asked, (v, w, path)))

    def normal_and_path(self, worth):
        """Return the normal of a worth by the rules that stand, and a path to it."""
        end, steps = normal_and_steps(self.standing, worth)
        return end, tuple((self.shown_by[index], 1, times) for index, times in steps)

    def settle(self, v, w, path):
        """Bring two worths that are like to one normal, by a further rule if it needs one."""
        one, to_one = self.normal_and_path(v)
        two, to_two = self.normal_and_path(w)
        if one == two:
            return
        if one is None or (two is not None and key_of(self.kinds, one) < key_of(self.kinds, two)):
            self.stand(two, one, turned_about(to_two) + turned_about(path) + to_one)
        else:
            self.stand(one, two, turned_about(to_one) + path + to_two)

    def show(self, left, right, path):
        """Keep a lemma, and return its number."""
        self.lemmas.append((left, right, path))
        return self.many_facts + len(self.lemmas) - 1

    def stand(self, left, right, path):
        """Let a further rule stand; ask what it takes back, and where it overlaps with others."""
        number = self.show(left, right, path)
        kept, kept_by = [], []
        for rule, other in zip(self.standing, self.shown_by):
            if below(left, rule[0]):
                self.ask(rule[0], rule[1], ((other, 1, 1),))
            else:
                self.overlap((left, right), number, rule, other)
                kept.append(rule)
                kept_by.append(other)
        self.standing = kept + [(left, right)]
        self.shown_by = kept_by + [number]

    def overlap(self, one, number, two, other):
        """Ask of the two worths to which two rules lead the join of their lefts, unless they surely meet."""
        if not overlapping(one[0], two[0]) or (one[1] is None and two[1] is None):
            return
        if one[1] is None:
            one, number, two, other = two, other, one, number
        start = join_of(one[0], two[0])
        path = ((number, -1, 1), (other, 1, 1))
        self.ask(led(one[0], one[1], 1, start), led(two[0], two[1], 1, start), path)

    def finished(self):
        """Return the row, and the numbers of the lemmas that show its rules, in its order."""
        row, numbers = [], []
        for index in self.rising():
            left, right = self.standing[index]
            number = self.shown_by[index]
            end, path = self.normal_and_path(right)
            if path:
                number = self.show(left, end, ((number, 1, 1),) + path)
            row.append((left, end))
            numbers.append(number)
        return tuple(row), tuple(numbers)

    def rising(self):
        """Return the indexes of the rules, rising by the keys of their lefts."""
        keys = [(key_of(self.kinds, left), index) for index, (left, _) in enumerate(self.standing)]
        return [index for _, index in sorted(keys)]


def turned_about(path):
    """Return the path that leads back; no step of it may lead to None."""
    return tuple((number, -way, times) for number, way, times in path[::-1])


def needed_lemmas(many_facts, lemmas, numbers):
    """Return only the lemmas on which these numbers lean, and all numbers, as they then are, by the old ones."""
    needed = {number: True for number in numbers}
    for number in range(many_facts + len(lemmas) - 1, many_facts - 1, -1):
        if number in needed:
            for leant_on, _, _ in lemmas[number - many_facts][2]:
                needed[leant_on] = True
    new = {number: number for number in range(many_facts)}
    kept = []
    for index, (start, goal, path) in enumerate(lemmas):
        if many_facts + index in needed:
            new[many_facts + index] = many_facts + len(kept)
            kept.append((start, goal, renumbered(path, new)))
    return tuple(kept), new


def renumbered(path, new):
    """Return a path whose steps have new numbers, which are told by the old ones."""
    return tuple([(new[number], way, times) for number, way, times in path])
