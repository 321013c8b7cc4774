"""Points [37] and [38]: what holds in both of two books, its row in letters, and its paper."""

import itertools
import time
import unittest
import unittest.mock

from lawsleft.facts import facts
from lawsleft.joins import implies, same_books
from lawsleft.letters import kept_of, letter_pairs, letter_row, order_of
from lawsleft.meets import meet_paper, meet_right, meet_row
from lawsleft.normals import is_reduced, normal, row_right, rules_meet
from lawsleft.rules import rules
from tests.samples import BARE, FOREVER, JUNK, LOGGING, SENDING, WIDE, Chance, bent, book_of, doing, nested, refusal
from tests.test_kernel import Walk

ONE = ((), (("send", 1),), ("done",))
EVEN = ((), (("a", 1), ("b", 1)), ("done",))
GROUNDS = (ONE, EVEN, LOGGING, ((), (("a", 7), ("b", 4)), ("done",)))


def of_one(*given):
    return book_of(ONE, given)


class Rows(unittest.TestCase):
    def told(self, one, two, row):
        self.assertEqual(meet_row(one, two), row)
        self.assertEqual(meet_row(two, one), row)
        for first, second in ((one, two), (two, one)):
            self.assertIs(meet_right(first, second, meet_paper(first, second)), True)

    def test_the_examples_of_one_kind(self):
        all_1, pair_0_2 = of_one(("all", (1,))), of_one(("like", (0,), (2,)))
        pair_0_3 = of_one(("like", (0,), (3,)))
        self.told(all_1, pair_0_2, (((3,), (1,)),))
        self.told(pair_0_2, pair_0_3, (((6,), (0,)),))

    def test_by_name(self):
        book = of_one(("like", (0,), (2,)))
        self.assertEqual(meet_row(one=book, two=book), (((2,), (0,)),))
        self.assertIs(meet_right(one=book, two=book, paper=meet_paper(one=book, two=book)), True)

    def test_a_book_and_itself(self):
        for ground, given in ((LOGGING, (("like", (0, 1), (1, 1)),)),
                              (LOGGING, (("like", (0, 1), (1, 1)), ("like", (0, 1), (0, 2)))),
                              (EVEN, (("like", (0, 1), (1, 0)), ("all", (0, 2)))), (ONE, (("all", (3,)),)), (BARE, ())):
            book = book_of(ground, given)
            self.told(book, book, rules(book))

    def test_a_book_and_one_that_says_less(self):
        base = book_of(LOGGING, (("like", (0, 1), (1, 1)),))
        self.told(base, (LOGGING, ()), ())
        self.told((LOGGING, ()), (LOGGING, ()), ())
        self.told(base, book_of(LOGGING, (("like", (0, 1), (2, 1)),)), (((2, 1), (0, 1)),))
        self.told(base, book_of(LOGGING, (("like", (0, 1), (1, 1)), ("like", (0, 1), (0, 2)))), (((1, 1), (0, 1)),))

    def test_one_side_of_two_kinds_each(self):
        self.told(book_of(EVEN, (("like", (0, 0), (1, 0)),)), book_of(EVEN, (("like", (0, 0), (0, 1)),)), ())
        self.told(book_of(EVEN, (("all", (1, 0)),)), book_of(EVEN, (("all", (0, 1)),)), (((1, 1), None),))
        self.told(book_of(EVEN, (("all", (1, 0)),)), book_of(EVEN, (("like", (0, 0), (0, 2)),)), (((1, 2), (1, 0)),))
        self.told(book_of(EVEN, (("all", (2, 0)), ("all", (0, 1)))), book_of(EVEN, (("all", (1, 3)), ("all", (4, 0)))),
                  (((1, 3), None), ((4, 0), None)))

    def test_everything_at_nought(self):
        for ground in (ONE, EVEN, LOGGING, SENDING):
            whole = book_of(ground, (("all", (0,) * len(ground[1])),))
            self.told(whole, whole, (((0,) * len(ground[1]), None),))
            self.told(whole, (ground, ()), ())
            # Beside a book in which all is everything there stands the other book's row.
            chance = Chance(ground, 4)
            other = book_of(ground, chance.facts(2, 3, 0.5))
            self.told(whole, other, rules(other))
        self.told(of_one(("like", (0,), (2,)), ("all", (1,))), of_one(("all", (0,))), (((0,), None),))

    def test_without_kinds(self):
        whole = (BARE, (((), (FOREVER,)),))
        self.told(whole, whole, (((), None),))
        self.told(whole, (BARE, ()), ())
        self.told((BARE, ()), (BARE, ()), ())

    def test_cells_change_nothing(self):
        one = (SENDING, ((doing(SENDING, (2,)), doing(SENDING, (5,))),))
        two = (SENDING, ((doing(SENDING, (1,)), (("set", "c", ("num", 1)),) + doing(SENDING, (1,))),))
        self.told(one, two, (((5,), (2,)),))

    def test_counts_have_one_normal_exactly_if_they_are_like_by_both(self):
        for seed in range(60):
            ground = GROUNDS[seed % 4]
            chance = Chance(ground, seed)
            books = [book_of(ground, chance.facts(1 + seed % 2, 3, (0, 0.3, 0.6)[seed % 3])) for _ in range(2)]
            row = meet_row(books[0], books[1])
            self.assertIs(row_right(ground, (), row), True)
            rows = [rules(book) for book in books]
            dearest = 8 * max(cost for _, cost in ground[1]) if len(ground[1]) == 2 else 30
            box = itertools.product(range(dearest + 1), repeat=len(ground[1]))
            small = sorted([v for v in box if chance.key(v)[0] <= dearest], key=chance.key)
            least = {}
            for v in small:
                both = tuple(normal(ground, other, v) for other in rows)
                expected = None if both == (None, None) else least.setdefault(both, v)
                self.assertEqual(normal(ground, row, v), expected, (books, v))

    def test_laws_that_hold_in_both_are_those_of_the_row(self):
        for seed in range(40):
            ground = GROUNDS[seed % 4]
            chance = Chance(ground, 100 + seed)
            one, two = [book_of(ground, chance.facts(2, 3, 0.3)) for _ in range(2)]
            given = tuple(("all", left) if right is None else ("like", right, left) for left, right in meet_row(one, two))
            both = book_of(ground, given)
            self.assertIs(implies(one, both) and implies(two, both), True)
            self.assertEqual(rules(both), meet_row(one, two))
            if implies(one, two):
                self.assertIs(same_books(both, two), True)


class Papers(unittest.TestCase):
    def test_the_row_in_letters_of_one_kind(self):
        # Letters of x, y and z: one for the kind, one for everything.
        row, part, other_part = meet_paper(of_one(("all", (0,))), of_one())
        self.assertEqual(row, (
            ((0, 2, 0, 0, 0, 0), (0, 1, 0, 0, 0, 0)), ((1, 1, 0, 0, 0, 0), (0, 1, 0, 0, 0, 0)),
            ((0, 0, 0, 0, 0, 1), (0, 1, 0, 0, 0, 0)), ((0, 0, 0, 0, 1, 0), (1, 0, 0, 0, 0, 0)),
            ((0, 0, 0, 1, 0, 0), (0, 0, 0, 0, 0, 0)), ((0, 0, 1, 0, 0, 0), (0, 0, 0, 0, 0, 0)),
        ))
        self.assertEqual((part, other_part), (((), ()), ((), ())))

    def test_papers_are_let(self):
        since = time.monotonic()
        for seed in range(160):
            ground = GROUNDS[seed % 4] if seed % 5 else WIDE
            chance = Chance(ground, seed)
            one, two = [book_of(ground, chance.facts(seed % 3, 3, (0, 0.3, 0.6)[seed % 3])) for _ in range(2)]
            row, part, other_part = meet_paper(one, two)
            self.assertIs(meet_right(one, two, (row, part, other_part)), True)
            self.assertIs(is_reduced(row) and rules_meet(row), True)
            self.assertEqual([len(part[1]), len(other_part[1])], [len(meet_row(one, two))] * 2)
            if part != other_part:
                self.assertIs(meet_right(one, two, (row, other_part, part)), False)
        self.assertLess(time.monotonic() - since, 60)

    def test_two_facts_of_two_kinds_within_a_short_time(self):
        since = time.monotonic()
        for given, other in (((("like", (0, 3), (2, 2)), ("like", (2, 0), (0, 3))), (("like", (2, 2), (3, 2)), ("like", (3, 0), (3, 3)))),
                             ((("like", (1, 3), (3, 2)), ("like", (0, 3), (3, 3))), (("like", (3, 2), (3, 3)), ("like", (1, 2), (3, 0)))),
                             ((("like", (1, 1), (3, 3)), ("like", (3, 0), (2, 3))), (("like", (2, 0), (0, 2)), ("like", (3, 1), (3, 3))))):
            for ground in GROUNDS[1:]:
                chance = Chance(ground, 0)
                one, two = [book_of(ground, tuple(("like",) + tuple(sorted(fact[1:], key=chance.key)) for fact in some))
                            for some in (given, other)]
                self.assertIs(meet_right(one, two, meet_paper(one, two)), True)
        self.assertLess(time.monotonic() - since, 30)

    def test_more_facts_than_are_promised(self):
        ground = ((), (("a", 2), ("b", 3), ("c", 1)), ("done",))
        chance = Chance(ground, 1)
        one, two = book_of(ground, chance.facts(4, 4, 0.2)), book_of(ground, chance.facts(4, 4, 0.2))
        self.assertIs(meet_right(one, two, meet_paper(one, two)), True)

    def test_equal_calls_return_the_same_and_nothing_is_changed(self):
        chance = Chance(EVEN, 7)
        arguments = tuple(book_of(EVEN, chance.facts(2, 3, 0.3)) for _ in range(2))
        copy = eval(repr(arguments))
        self.assertEqual(meet_paper(*arguments), meet_paper(*copy))
        self.assertEqual(meet_row(*arguments), meet_row(*copy))
        self.assertIs(meet_right(*arguments, meet_paper(*copy)), True)
        self.assertEqual(arguments, copy)


class SecondOpinion:
    """Judges papers of what holds in both, all pairs of rules, without a short way."""

    def __init__(self, one, two):
        self.books = (one, two)
        self.kinds = one[0][1]
        self.pairs = letter_pairs(self.kinds, facts(one), facts(two))

    def order(self, word):
        many = len(self.kinds) + 1
        if type(word) is not tuple or len(word) != 3 * many or min(word) < 0 or {type(n) for n in word} != {int}:
            raise ValueError
        price = sum(n * cost for n, (_, cost) in zip(word, self.kinds))
        return sum(word[many:]), word[many:2 * many], word[2 * many:], price, word[:many - 1], word[many - 1]

    def normal(self, row, word):
        """Return the normal of a word; what takes more turns than can be waited for has none."""
        turns, again = 0, True
        while again:
            again = False
            for left, right in row[::-1]:
                while all(m <= n for m, n in zip(left, word)):
                    word = tuple(n - m + k for m, k, n in zip(left, right, word))
                    again = True
                    turns += 1
                    if turns > 1000:
                        raise ValueError
        return word

    def letters(self, row):
        orders = [self.order(left) for left, _ in row]
        if orders != sorted(orders) or len(set(orders)) < len(orders):
            raise ValueError
        for index, (left, right) in enumerate(row):
            if self.order(right) >= self.order(left) or self.normal(row, right) != right:
                raise ValueError
            if self.normal(row[:index] + row[index + 1:], left) != left:
                raise ValueError
        for v, w in self.pairs:
            if self.normal(row, v) != self.normal(row, w):
                raise ValueError
        for one, two in itertools.combinations(row, 2):
            join = tuple(map(max, one[0], two[0]))
            ends = [tuple(n - m + k for m, k, n in zip(rule[0], rule[1], join)) for rule in (one, two)]
            if self.normal(row, ends[0]) != self.normal(row, ends[1]):
                raise ValueError

    def kept(self, row):
        many = len(self.kinds)
        if ((0,) * many + (1,) + (0,) * (2 * many + 2)) in [left for left, _ in row]:
            return [((0,) * many, None)]
        return [(left[:many], None if right[many] else right[:many]) for left, right in row if not any(left[many:])]

    def part(self, book, kept, part):
        lemmas, entries = part
        if type(part) is not tuple or type(lemmas) is not tuple or type(entries) is not tuple or len(entries) != len(kept):
            raise ValueError
        walk = Walk(facts(book))
        for start, goal, path in lemmas:
            walk.count(len(self.kinds), start)
            if goal is not None:
                walk.count(len(self.kinds), goal)
            walk.leads(start, goal, path)
            walk.sides.append((start, goal))
        for (left, right), entry in zip(kept, entries):
            if entry[0] == "like" and len(entry) == 2 and right is not None:
                walk.leads(left, right, entry[1])
            elif entry[0] == "all" and len(entry) == 3 and (right is not None or entry[2] == ()):
                walk.leads(left, None, entry[1])
                if right is not None:
                    walk.leads(right, None, entry[2])
            else:
                raise ValueError

    def right(self, paper):
        try:
            row, part, other_part = paper
            if type(paper) is not tuple or type(row) is not tuple or {len(rule) for rule in row} - {2}:
                return False
            if {type(rule) for rule in row} - {tuple}:
                return False
            self.letters(row)
            self.part(self.books[0], self.kept(row), part)
            self.part(self.books[1], self.kept(row), other_part)
        except (TypeError, ValueError, IndexError):
            return False
        return True


class BentPapers(unittest.TestCase):
    def test_by_a_second_opinion(self):
        told = {True: 0, False: 0}
        for seed in range(24):
            ground = (ONE, EVEN, LOGGING, BARE)[seed % 4]
            chance = Chance(ground, seed)
            one, two = [book_of(ground, chance.facts(1 + seed % 2, 3, (0.2, 0.5)[seed % 2])) for _ in range(2)]
            paper = meet_paper(one, two)
            opinion = SecondOpinion(one, two)
            self.assertIs(opinion.right(paper), True)
            things = bent(paper[1:]) if seed % 3 else []
            things = [paper[:1] + thing for thing in things if isinstance(thing, tuple)] + bent(paper)
            often = len(things) // 60 + 1
            for thing in [thing for index, thing in enumerate(things) if index < 40 or index % often == 0]:
                expected = opinion.right(thing)
                self.assertIs(meet_right(one, two, thing), expected, (one, two, thing))
                told[expected] += 1
        self.assertGreater(told[False], 1000)
        self.assertGreater(told[True], 5)

    def test_parts_that_are_bent_by_hand(self):
        one, two = of_one(("like", (0,), (2,))), of_one(("like", (0,), (3,)))
        row, _, _ = meet_paper(one, two)
        right = ((), (("like", ((0, -1, 3),)),)), ((), (("like", ((0, -1, 2),)),))
        self.assertIs(meet_right(one, two, (row,) + right), True)
        lemma = ((6,), (0,), ((0, -1, 3),))
        self.assertIs(meet_right(one, two, (row, ((lemma, lemma), (("like", ((2, 1, 1),)),)), right[1])), True)
        for part in (((), (("like", ((0, -1, 2),)),)), ((), (("like", ((0, 1, 3),)),)), ((), (("like", ((1, -1, 3),)),)),
                     ((), (("like", ()),)), ((), (("all", ((0, -1, 3),), ()),)), ((), ()), ((), right[0][1] * 2),
                     (((((6,), (0,), ((1, 1, 1),)),)), (("like", ((1, 1, 1),)),)), ((), ((),)), (), None, right[0] + ((),),
                     (((((6,), (0,), ((2, 1, 1),)), lemma)), (("like", ((1, 1, 1),)),)), right[1], ((lemma[:2],), right[0][1])):
            self.assertIs(meet_right(one, two, (row, part, right[1])), False)
            self.assertIs(meet_right(two, one, (row, right[1], part)), False)
        for rows in ((), row[1:], row[:-1], row + row[-1:], row[::-1], None, row[0], (row,), nested(row, 30)):
            self.assertIs(meet_right(one, two, (rows,) + right), False)

    def test_entries_to_everything(self):
        one, two = of_one(("all", (1,))), of_one(("all", (2,)), ("like", (0,), (3,)))
        row, _, _ = meet_paper(one, two)
        self.assertEqual(meet_row(one, two), (((1,), None),))
        right = ((), (("all", ((0, 1, 1),), ()),)), ((), (("all", ((1, 1, 1), (0, 1, 1)), ()),))
        self.assertIs(meet_right(one, two, (row,) + right), True)
        for entry in (("all", ((0, 1, 1),)), ("all", ((0, 1, 1),), ((0, 1, 1),)), ("all", (), ((0, 1, 1),)), ("all", (), ()),
                      ("like", ((0, 1, 1),)), ("like", ()), ("all", ((0, 1, 2),), ()), ("all", ((0, -1, 1),), ()), ()):
            self.assertIs(meet_right(one, two, (row, ((), (entry,)), right[1])), False)
        like = of_one(("like", (1,), (2,)))
        row, _, _ = meet_paper(one, like)
        for entry, expected in ((("all", ((0, 1, 1),), ((0, 1, 1),)), True), (("all", ((0, 1, 1),), ()), False),
                                (("all", (), ((0, 1, 1),)), False), (("like", ((0, 1, 1),)), False)):
            self.assertIs(meet_right(one, like, (row, ((), (entry,)), ((), (("like", ((0, -1, 1),)),)))), expected)

    def test_everything_at_nought(self):
        for ground, row in ((ONE, (((0,), None),)), (BARE, (((), None),))):
            whole = book_of(ground, (("all", row[0][0]),))
            letters, _, _ = meet_paper(whole, whole)
            right = ((), (("all", ((0, 1, 1),), ()),))
            self.assertIs(meet_right(whole, whole, (letters, right, right)), True)
            self.assertIs(meet_right(whole, whole, (letters, right, ((), ()))), False)
            self.assertIs(meet_right(whole, whole, (letters, ((), right[1] * 2), right)), False)

    def test_each_right_is_less_than_its_left(self):
        # By another order of words the same pairs have another row, which is reduced, and whose rules meet.
        def other_order(kinds, word):
            return sum(word), word

        none = ((), ())
        for ground in (ONE, LOGGING):
            with unittest.mock.patch("lawsleft.letters.order_of", other_order):
                row = letter_row(ground[1], (), ())
            self.assertIs(meet_right((ground, ()), (ground, ()), (letter_row(ground[1], (), ()), none, none)), True)
            row = tuple(sorted(row, key=lambda rule: order_of(ground[1], rule[0])))
            self.assertIs(is_reduced(row) and rules_meet(row), True)
            self.assertEqual(kept_of(ground[1], row), ())
            self.assertIs(meet_right((ground, ()), (ground, ()), (row, none, none)), False)

    def test_a_row_that_says_more_needs_entries_for_it(self):
        one, two = of_one(("like", (0,), (2,))), of_one(("like", (0,), (3,)))
        more = meet_paper(one, one)[0]
        paper = (more, ((), (("like", ((0, -1, 1),)),)), ((), (("like", ((0, -1, 1),)),)))
        self.assertIs(meet_right(one, one, paper), True)
        self.assertIs(meet_right(one, two, paper), False)

    def test_any_values(self):
        one, two = of_one(("like", (0,), (2,))), of_one(("like", (0,), (3,)))
        right = [one, two, meet_paper(one, two)]
        self.assertIs(meet_right(*right), True)
        row, part, other_part = right[2]
        for thing in JUNK:
            for index in range(3):
                some = list(right)
                some[index] = thing
                self.assertIs(meet_right(*some), False)
            for paper in ((thing, part, other_part), (row, thing, other_part), (row, part, thing), right[2] + (thing,),
                          (row + (thing,), part, other_part), ((thing,) + row[1:], part, other_part),
                          (((thing, row[0][1]),) + row[1:], part, other_part), (row, (thing, part[1]), other_part),
                          (((row[0][0], thing),) + row[1:], part, other_part), (row, (part[0], thing), other_part),
                          (row, (part[0] + (thing,), part[1]), other_part), (row, (part[0], (thing,)), other_part)):
                self.assertIs(meet_right(one, two, paper), False)
        for paper in ((), right[2][:2], right[2][::-1], nested(right[2], 30), list(right[2])):
            self.assertIs(meet_right(one, two, paper), False)
        self.assertIs(meet_right(of_one(), (LOGGING, ()), meet_paper(of_one(), of_one())), False)
        self.assertIs(meet_right(of_one(), (((),) + ONE[1:2] + (("other",),), ()), meet_paper(of_one(), of_one())), False)
        self.assertIs(meet_right(of_one(), (ONE, (((), ()),) * 31), meet_paper(of_one(), of_one())), False)

    def test_large_rows(self):
        one = of_one()
        some = ((), ())
        rows = [tuple(((0, 0, 500 - n, n, 0, 0), (0,) * 6) for n in range(500)),
                tuple(((0, 0, n, 500 - n, 0, 0), (0,) * 6) for n in range(500)),
                tuple(((0, 0, 0, 1, n, 500 - n), (0, 0, 0, 1, 0, 0)) for n in range(500)),
                tuple(((0, 10 ** 30 + n, 0, 0, 0, 0), (n, 0, 0, 0, 0, 0)) for n in range(500))]
        since = time.monotonic()
        for row in rows:
            self.assertIs(meet_right(one, one, (row, some, some)), False)
            self.assertIs(meet_right(one, one, (row[::-1], some, some)), False)
        self.assertLess(time.monotonic() - since, 30)


class Wrong(unittest.TestCase):
    def test_which_error_comes_first(self):
        good = of_one()
        for call in (meet_row, meet_paper):
            self.assertEqual(refusal(call, None, None), ("BadBook", -1))
            self.assertEqual(refusal(call, (((), (), ()), ()), None), ("BadGround", (2, -1)))
            self.assertEqual(refusal(call, (ONE, ((),)), None), ("BadLaw", 0))
            self.assertEqual(refusal(call, (ONE, (((), ()), (doing(ONE, (41,)), ()))), None), ("TooGreat", 1))
            self.assertEqual(refusal(call, good, None), ("BadBook", -1))
            self.assertEqual(refusal(call, good, (((), (), ()), ())), ("BadGround", (2, -1)))
            self.assertEqual(refusal(call, good, (LOGGING, ((),))), ("BadLaw", 0))
            self.assertEqual(refusal(call, good, (ONE, ((doing(ONE, (41,)), ()),))), ("TooGreat", 0))
            self.assertEqual(refusal(call, good, (LOGGING, ())), ("Unlike", 0))
            self.assertEqual(refusal(call, (SENDING, ()), (((),) + SENDING[1:], ())), ("Unlike", 0))
            for thing in JUNK:
                self.assertIn(refusal(call, thing, good)[0], ("BadBook", "BadGround"))
                self.assertIn(refusal(call, good, thing)[0], ("BadBook", "BadGround"))


if __name__ == "__main__":
    unittest.main()
