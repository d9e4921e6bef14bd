import unittest
from itertools import permutations, product
from random import Random

from hushcards.errors import CardError, NoPlan, TooMany
from hushcards.gates import anded, copied, followed, negated, oned
from hushcards.plans import is_plan, plans_in, walked
from hushcards.quiet import quiet
from hushcards.right import chances
from plain import Reckoner, as_tuple, some_plan

AGAIN = ("again",)
ONE = (1, 1)
COIN = ((0, 1), (1, 0))
END = ("end", (1, 0))
SHORT = ("end", (1,))


def plans_of(plan):
    if plan[0] in ("lay", "mix"):
        return [plan] + plans_of(plan[2])
    if plan[0] == "look":
        return [plan] + [part for seen, inner in plan[2] for part in plans_of(inner)]
    return [plan]


def depth_of(plan):
    if plan[0] in ("lay", "mix"):
        return 1 + depth_of(plan[2])
    if plan[0] == "look":
        return 1 + max([depth_of(inner) for seen, inner in plan[2]])
    return 1


def chain(count, inmost=END):
    plan = inmost
    for step in range(count):
        plan = ("lay", (1, 0), plan)
    return plan


def wide(count, inner=END):
    return ("look", (0, 1), tuple([((number // 10, number - number // 10 * 10), inner) for number in range(count)]))


class FollowedCase(unittest.TestCase):

    def check(self, plan, more, due, many=2):
        told = followed(many, plan, more)
        self.assertEqual(told, due)
        self.assertIs(is_plan(told, many), True)

    def refuses(self, error, plan, more, many=2):
        with self.assertRaises(CardError) as taken:
            followed(many, plan, more)
        self.assertIs(type(taken.exception), error)


class Followed(FollowedCase):

    def test_an_end_alone(self):
        self.check(END, SHORT, ("lay", (1, 0), SHORT))
        self.check(("end", (0, 1)), AGAIN, ("lay", (0, 1), AGAIN))
        self.check(("end", (0,)), ("end", (0,)), ("lay", (0,), ("end", (0,))), 1)
        self.check(("end", (2, 0, 1)), ("mix", ((0, 2, 1),), SHORT), ("lay", (2, 0, 1), ("mix", ((0, 2, 1),), SHORT)), 3)

    def test_each_form(self):
        self.check(("lay", (1, 0), END), SHORT, ("lay", (1, 0), ("lay", (1, 0), SHORT)))
        self.check(("mix", COIN, END), SHORT, ("mix", COIN, ("lay", (1, 0), SHORT)))
        self.check(("look", (1,), (((3,), END),)), SHORT, ("look", (1,), (((3,), ("lay", (1, 0), SHORT)),)))

    def test_each_end_by_its_places(self):
        plan = ("mix", COIN, ("look", (0,), (
            ((0,), ("end", (0, 1))), ((1,), ("lay", (1, 0), END)), ((2,), ("look", (1,), (((0,), END),))))))
        self.check(plan, SHORT, ("mix", COIN, ("look", (0,), (
            ((0,), ("lay", (0, 1), SHORT)), ((1,), ("lay", (1, 0), ("lay", (1, 0), SHORT))),
            ((2,), ("look", (1,), (((0,), ("lay", (1, 0), SHORT)),)))))))

    def test_agains_stay(self):
        self.check(AGAIN, SHORT, AGAIN)
        self.check(("lay", (1, 0), AGAIN), SHORT, ("lay", (1, 0), AGAIN))
        self.check(("look", (0,), (((0,), AGAIN), ((1,), END))), SHORT,
                   ("look", (0,), (((0,), AGAIN), ((1,), ("lay", (1, 0), SHORT)))))

    def test_more_stays(self):
        more = ("look", (1,), (((0,), SHORT), ((1,), AGAIN), ((2,), ("end", (0, 1)))))
        self.check(END, more, ("lay", (1, 0), more))

    def test_no_plan(self):
        self.refuses(NoPlan, SHORT, END)
        self.refuses(NoPlan, ("lay", (1, 0), SHORT), END)
        self.refuses(NoPlan, ("mix", COIN, ("end", (0,))), END)
        self.refuses(NoPlan, ("look", (0,), (((0,), END), ((1,), SHORT))), END)
        self.refuses(NoPlan, ("look", (0,), (((0,), SHORT), ((1,), END))), END)
        self.refuses(NoPlan, ("look", (0,), (((0,), AGAIN), ((1,), chain(3, SHORT)))), END)
        for count in range(1, 8):
            places = tuple(range(count))
            self.refuses(NoPlan, ("end", places), ("end", (0,)), 8)
        self.check(("end", tuple(range(8))), ("end", (0,)), ("lay", tuple(range(8)), ("end", (0,))), 8)

    def test_no_plan_ahead_of_too_many(self):
        self.refuses(NoPlan, chain(11, SHORT), END)
        self.refuses(NoPlan, chain(11, SHORT), chain(11))
        self.refuses(NoPlan, ("look", (0,), (((0,), chain(10)), ((1,), SHORT))), END)
        self.refuses(NoPlan, ("look", (0,), (((0,), wide(57)), ((1,), SHORT))), wide(20))

    def test_twelve_within_one_another(self):
        for count in range(11):
            told = followed(2, chain(count), chain(10 - count, SHORT))
            self.assertEqual((plans_in(told), depth_of(told)), (12, 12))
            self.assertIs(is_plan(told, 2), True)
            self.refuses(TooMany, chain(count), chain(11 - count, SHORT))
            self.refuses(TooMany, chain(count + 1), chain(10 - count, SHORT))
        self.refuses(TooMany, chain(11), SHORT)
        self.refuses(TooMany, END, chain(11))
        self.refuses(TooMany, ("look", (0,), (((0,), END), ((1,), chain(5)))), chain(5))
        self.check(("look", (0,), (((0,), AGAIN), ((1,), chain(5)))), chain(4, SHORT),
                   ("look", (0,), (((0,), AGAIN), ((1,), chain(5, ("lay", (1, 0), chain(4, SHORT)))))))

    def test_sixty_plans(self):
        told = followed(2, wide(29), SHORT)
        self.assertEqual(plans_in(told), 59)
        self.assertEqual(plans_in(followed(2, ("mix", COIN, wide(29)), SHORT)), 60)
        self.refuses(TooMany, ("lay", (1, 0), ("mix", COIN, wide(29))), SHORT)
        self.refuses(TooMany, wide(30), SHORT)
        self.assertEqual(plans_in(followed(2, END, wide(58))), 60)
        self.refuses(TooMany, END, wide(59))
        self.refuses(TooMany, wide(59), wide(59))
        self.check(wide(59, AGAIN), wide(59), wide(59, AGAIN))

    def test_by_walking(self):
        source = Random(60)
        met = 0
        while met < 200:
            many = source.randint(2, 4)
            plan = self.all_told(source, some_plan(source, many, 2), many)
            more = some_plan(source, many, 2)
            row = tuple([source.randint(0, 1) for place in range(many)])
            parts = [part[0] for each in (plan, more) for part in plans_of(each)]
            if "again" in parts or plans_in(plan) * plans_in(more) > 60:
                continue
            due = {}
            ahead = Reckoner(plan, row)
            behind = [(chance, Reckoner(more, reached)) for results in ahead.ends.values()
                      for reached, chance in results.items()]
            if ahead.missing or [each for chance, each in behind if each.missing]:
                continue
            met += 1
            for chance, each in behind:
                for results in each.ends.values():
                    for result, part in results.items():
                        due[result] = due.get(result, 0) + chance * part
            told = followed(many, plan, more)
            self.assertIs(is_plan(told, many), True)
            self.assertEqual(chances(told, row), [(result, as_tuple(due[result])) for result in sorted(due)])

    def all_told(self, source, plan, many):
        if plan[0] == "end":
            return ("end", tuple(source.sample(range(many), many)))
        if plan[0] in ("lay", "mix"):
            return (plan[0], plan[1], self.all_told(source, plan[2], many))
        if plan[0] == "look":
            return ("look", plan[1], tuple([(seen, self.all_told(source, inner, many)) for seen, inner in plan[2]]))
        return plan

    def test_asked_again(self):
        for step in range(2):
            self.check(END, SHORT, ("lay", (1, 0), SHORT))
            self.refuses(NoPlan, SHORT, END)


class GateCase(unittest.TestCase):

    def check_form(self, plan, many):
        self.assertIs(is_plan(plan, many), True)
        self.assertLessEqual(plans_in(plan), 5)
        self.assertLessEqual(depth_of(plan), 3)
        for part in plans_of(plan):
            self.assertNotEqual(part[0], "again")
            if part[0] == "end":
                self.assertEqual(len(part[1]), many)

    def rest(self, source, many, used):
        """Cards for the other places: unlike ones, pairs of bits, all alike, at haphazard."""
        free = [place for place in range(many) if place // 2 not in used]
        cards = [[9 - number for number in range(len(free))], [number % 2 for number in range(len(free))],
                 [1] * len(free), [source.randint(0, 9) for place in free]]
        return [dict(zip(free, each)) for each in cards]

    def rows(self, source, many, fixed):
        """All rows to be tried in which these pairs, a dict by their numbers, are 0 or 1 as told."""
        made = []
        for others in self.rest(source, many, list(fixed)):
            for pair, bit in fixed.items():
                others[2 * pair] = bit
                others[2 * pair + 1] = 1 - bit
            made.append(tuple([others[place] for place in range(many)]))
        return made

    def pairs_of(self, count):
        for many in range(2 * count, 9):
            for pairs in permutations(range(many // 2), count):
                yield many, pairs

    def results(self, plan, row):
        told = [result for trace, chance, results in walked(plan, row) for result, part in results]
        for result in told:
            self.assertEqual(sorted(result), sorted(row))
        return told

    def others(self, row, pairs):
        return tuple([card for place, card in enumerate(row) if place // 2 not in pairs])

    def check_quiet(self, plan, rows):
        views = [[(trace, chance) for trace, chance, results in walked(plan, row)] for row in rows]
        self.assertEqual([view for view in views if view != views[0]], [])
        for number in range(0, len(rows), 7):
            self.assertEqual(quiet(plan, rows[:1] + rows[number:number + 7]), ("quiet",))


class Negated(GateCase):

    def test_everywhere(self):
        source = Random(61)
        for many, pairs in self.pairs_of(1):
            at = pairs[0]
            plan = negated(many, at)
            self.check_form(plan, many)
            self.assertLessEqual(plans_in(plan), 2)
            rows = [tuple([source.randint(0, 9) for place in range(many)]) for step in range(10)]
            rows.extend([row for bit in (0, 1) for row in self.rows(source, many, {at: bit})])
            for row in rows:
                due = row[:2 * at] + (row[2 * at + 1], row[2 * at]) + row[2 * at + 2:]
                self.assertEqual(chances(plan, row), [(due, ONE)])
            self.check_quiet(plan, rows)

    def test_by_hand(self):
        self.assertEqual(chances(negated(2, 0), (0, 1)), [((1, 0), ONE)])
        self.assertEqual(chances(negated(2, 0), (7, 7)), [((7, 7), ONE)])
        self.assertEqual(chances(negated(5, 1), (5, 6, 7, 8, 9)), [((5, 6, 8, 7, 9), ONE)])
        self.assertEqual(chances(negated(8, 3), (0, 1, 2, 3, 4, 5, 6, 7)), [((0, 1, 2, 3, 4, 5, 7, 6), ONE)])


class Oned(GateCase):

    def test_everywhere(self):
        source = Random(62)
        for many, pairs in self.pairs_of(2):
            plan = oned(many, pairs[0], pairs[1])
            self.check_form(plan, many)
            rows = []
            for bits in product((0, 1), repeat=2):
                worth = (bits[0] + bits[1]) % 2
                for row in self.rows(source, many, dict(zip(pairs, bits))):
                    rows.append(row)
                    due = (worth, 1 - worth, 0, 1) + self.others(row, pairs)
                    self.assertEqual(chances(plan, row), [(due, ONE)])
            self.check_quiet(plan, rows)

    def test_by_hand(self):
        for row, due in (((0, 1, 0, 1), (0, 1, 0, 1)), ((0, 1, 1, 0), (1, 0, 0, 1)), ((1, 0, 0, 1), (1, 0, 0, 1)),
                         ((1, 0, 1, 0), (0, 1, 0, 1))):
            self.assertEqual(chances(oned(4, 0, 1), row), [(due, ONE)])
        self.assertEqual(chances(oned(7, 2, 0), (1, 0, 5, 6, 0, 1, 9)), [((1, 0, 0, 1, 5, 6, 9), ONE)])


class Anded(GateCase):

    def test_everywhere(self):
        source = Random(63)
        for many, pairs in self.pairs_of(3):
            plan = anded(many, pairs[0], pairs[1], pairs[2])
            self.check_form(plan, many)
            rows = []
            for bits in product((0, 1), repeat=2):
                worth = bits[0] * bits[1]
                for row in self.rows(source, many, dict(zip(pairs, bits + (0,)))):
                    rows.append(row)
                    for result in self.results(plan, row):
                        self.assertEqual(result[:4], (worth, 1 - worth, 0, 1))
                        self.assertIn(result[4:6], ((0, 1), (1, 0)))
                        self.assertEqual(result[6:], self.others(row, pairs))
            self.check_quiet(plan, rows)

    def test_by_hand(self):
        for row, due in (((0, 1, 0, 1, 0, 1), (0, 1)), ((0, 1, 1, 0, 0, 1), (0, 1)), ((1, 0, 0, 1, 0, 1), (0, 1)),
                         ((1, 0, 1, 0, 0, 1), (1, 0))):
            for result in self.results(anded(6, 0, 1, 2), row):
                self.assertEqual(result[:4], due + (0, 1))
        for result in self.results(anded(8, 3, 1, 0), (0, 1, 1, 0, 8, 9, 1, 0)):
            self.assertEqual(result[:4] + result[6:], (1, 0, 0, 1, 8, 9))


class Copied(GateCase):

    def test_everywhere(self):
        source = Random(64)
        for many, pairs in self.pairs_of(3):
            plan = copied(many, pairs[0], pairs[1], pairs[2])
            self.check_form(plan, many)
            rows = []
            for bit in (0, 1):
                for row in self.rows(source, many, dict(zip(pairs, (bit, 0, 0)))):
                    rows.append(row)
                    due = (bit, 1 - bit, bit, 1 - bit, 0, 1) + self.others(row, pairs)
                    self.assertEqual(chances(plan, row), [(due, ONE)])
            self.check_quiet(plan, rows)

    def test_by_hand(self):
        self.assertEqual(chances(copied(6, 0, 1, 2), (1, 0, 0, 1, 0, 1)), [((1, 0, 1, 0, 0, 1), ONE)])
        self.assertEqual(chances(copied(6, 2, 1, 0), (0, 1, 0, 1, 0, 1)), [((0, 1, 0, 1, 0, 1), ONE)])
        self.assertEqual(chances(copied(7, 1, 2, 0), (0, 1, 1, 0, 0, 1, 5)), [((1, 0, 1, 0, 0, 1, 5), ONE)])


class Together(GateCase):

    def test_copied_then_reckoned(self):
        # A bit copied, one copy turned, and all of both: never 1.
        plan = followed(8, copied(8, 0, 1, 2), followed(8, negated(8, 1), anded(8, 0, 1, 2)))
        for row in ((0, 1, 0, 1, 0, 1, 5, 6), (1, 0, 0, 1, 0, 1, 5, 6)):
            for result in self.results(plan, row):
                self.assertEqual(result[:2] + result[6:], (0, 1, 5, 6))
        self.assertEqual(quiet(plan, [(0, 1, 0, 1, 0, 1, 5, 6), (1, 0, 0, 1, 0, 1, 5, 6)]), ("quiet",))

    def test_asked_again(self):
        for ask, pairs in ((negated, (0,)), (oned, (1, 0)), (anded, (2, 1, 0)), (copied, (0, 2, 1))):
            self.assertEqual(ask(6, *pairs), ask(6, *pairs))


if __name__ == "__main__":
    unittest.main()
