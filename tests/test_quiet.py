import unittest
from fractions import Fraction
from itertools import combinations
from math import gcd
from random import Random

from hushcards.errors import CardError, NoEnd, NoWay
from hushcards.plans import plans_in
from hushcards.quiet import knows, quiet, quiet_but
from hushcards.shuffles import cut
from plain import Reckoner, as_tuple, some_plan

END = ("end", (0,))
AGAIN = ("again",)
ONE = (1, 1)
NONE = (0, 1)
HALF = (1, 2)
COIN = ((0, 1), (1, 0))
BIASED = ((0, 1), (0, 1), (1, 0))
QUIET = ("quiet",)
PAIRS = [(0, 1), (1, 0)]

# Looks at the first card.
OPEN = ("look", (0,), (((0,), END), ((1,), END), ((2,), END)))
# Turns a pair, perhaps, and looks at its first card: told is what lies where the 1 lay.
HUSHED = ("mix", COIN, ("look", (0,), (((0,), ("end", (1,))), ((1,), END))))
# The same, but a turned pair is half as likely.
SOFT = ("mix", BIASED, ("look", (0,), (((0,), END), ((1,), END))))
# Ends only where a 0 lies ahead, which is not equally likely from both rows.
PATIENT = ("mix", BIASED, ("look", (0,), (((0,), END), ((1,), AGAIN))))
# A 2 ahead has no end, a 3 no way.
PICKY = ("look", (0,), (((0,), END), ((1,), ("look", (1,), (((0,), END), ((1,), END)))), ((2,), AGAIN)))


class QuietCase(unittest.TestCase):

    def check(self, plan, rows, due):
        for handed in (list(rows), tuple(rows)):
            told = quiet(plan, handed)
            self.assertEqual(told, due)
            self.assertIs(type(told), tuple)
            self.assertEqual(quiet_but(plan, handed, [7] * len(rows)), due)
            self.assertEqual(quiet_but(plan, handed, (-1,) * len(rows)), due)

    def check_but(self, plan, rows, marks, due):
        for handed in (list(rows), tuple(rows)):
            told = quiet_but(plan, handed, marks)
            self.assertEqual(told, due)
            self.assertIs(type(told), tuple)

    def refuses(self, error, plan, rows, seen=None):
        share = (1, len(rows))
        nought = [ONE] + [NONE] * (len(rows) - 1)
        asked = [
            lambda: quiet(plan, rows), lambda: quiet_but(plan, rows, [0] * len(rows)),
            lambda: quiet_but(plan, rows, list(range(len(rows)))), lambda: knows(plan, rows, [share] * len(rows), ()),
            lambda: knows(plan, rows, nought, ((0,),)), lambda: knows(plan, rows, nought[::-1], ((9,), (9,)))]
        for ask in asked:
            with self.assertRaises(CardError) as taken:
                ask()
            self.assertIs(type(taken.exception), error)
            if error is NoWay:
                self.assertEqual(taken.exception.seen, seen)


class Quiet(QuietCase):

    def test_quiet(self):
        self.check(END, PAIRS, QUIET)
        self.check(HUSHED, PAIRS, QUIET)
        self.check(HUSHED, PAIRS * 4, QUIET)
        self.check(OPEN, [(0, 1), (0, 2), (0, 0)], QUIET)

    def test_results_say_nothing(self):
        self.check(("mix", BIASED, END), [(0, 1), (1, 0), (5, 6), (7, 7)], QUIET)
        self.check(("mix", COIN, ("look", (0,), (((0,), ("end", (0, 1))), ((1,), ("end", (1,)))))), PAIRS, QUIET)

    def test_one_row_alone(self):
        for plan in (END, OPEN, HUSHED, SOFT, PATIENT):
            self.check(plan, [(0, 1)], QUIET)

    def test_telling(self):
        self.check(OPEN, PAIRS, ("tells", 0, 1, ((0,),)))
        self.check(OPEN, PAIRS[::-1], ("tells", 0, 1, ((0,),)))
        self.check(OPEN, [(2, 0), (1, 0)], ("tells", 0, 1, ((1,),)))
        self.check(SOFT, PAIRS, ("tells", 0, 1, ((0,),)))

    def test_like_traces_of_unlike_chances(self):
        rare = ("mix", COIN[:1] * 23 + COIN[1:], ("look", (0,), (((0,), END), ((1,), END))))
        self.check(rare, PAIRS, ("tells", 0, 1, ((0,),)))
        often = ("mix", ((0, 1, 2),) * 12 + ((1, 0, 2),) * 11 + ((2, 1, 0),), OPEN)
        self.check(often, [(0, 1, 2), (1, 0, 2)], ("tells", 0, 1, ((0,),)))
        self.check(often, [(0, 1, 2), (0, 2, 1)], ("tells", 0, 1, ((1,),)))

    def test_the_first_two_rows(self):
        self.check(OPEN, [(0, 1), (0, 2), (1, 0), (2, 0)], ("tells", 0, 2, ((0,),)))
        self.check(OPEN, [(0, 1), (1, 0), (0, 2), (2, 0)], ("tells", 0, 1, ((0,),)))
        self.check(OPEN, [(1, 1), (1, 0), (1, 2), (2, 0)], ("tells", 0, 3, ((1,),)))
        self.check(OPEN, [(1, 1)] * 7 + [(0, 0)], ("tells", 0, 7, ((0,),)))
        self.check(OPEN, [(1, 1), (0, 1), (2, 2)], ("tells", 0, 1, ((0,),)))

    def test_the_first_trace(self):
        inner = ("look", (2,), (((0,), END), ((1,), END)))
        plan = ("mix", ((0, 1, 2), (1, 0, 2)), ("look", (0,), (((0,), END), ((1,), inner))))
        self.check(plan, [(0, 1, 0), (0, 1, 1)], ("tells", 0, 1, ((1,), (0,))))
        self.check(plan, [(0, 1, 1), (0, 1, 0)], ("tells", 0, 1, ((1,), (0,))))
        self.check(plan, [(1, 0, 1), (0, 1, 1)], QUIET)

    def test_a_trace_that_one_row_alone_shows(self):
        self.check(OPEN, [(1, 0), (2, 0)], ("tells", 0, 1, ((1,),)))
        self.check(OPEN, [(2, 0), (0, 0)], ("tells", 0, 1, ((0,),)))
        plan = ("look", (0,), (((0,), ("look", (1,), (((5,), END),))), ((1,), END)))
        self.check(plan, [(1, 0), (0, 5)], ("tells", 0, 1, ((0,), (5,))))

    def test_traces_as_tuples_compare(self):
        deep = ("look", (1,), (((8,), END), ((9,), END)))
        plan = ("look", (0,), (((0,), deep), ((1,), END)))
        self.check(plan, [(1, 5), (0, 9)], ("tells", 0, 1, ((0,), (9,))))
        self.check(plan, [(0, 9), (0, 8)], ("tells", 0, 1, ((0,), (8,))))
        wide = ("look", (0, 1), (((0, 9), END), ((1, 0), END)))
        self.check(wide, [(1, 0), (0, 9)], ("tells", 0, 1, ((0, 9),)))

    def test_unlike_agains(self):
        self.check(PATIENT, PAIRS, ("tells", 0, 1, None))
        self.check(PATIENT, PAIRS[::-1], ("tells", 0, 1, None))
        self.check(PATIENT, [(0, 1), (0, 1), (1, 0)], ("tells", 0, 2, None))
        self.check(PATIENT, [(0, 1), (0, 0)], ("tells", 0, 1, None))

    def test_unlike_agains_and_unlike_traces(self):
        plan = ("mix", ((0, 1, 2), (0, 1, 2), (1, 2, 0), (2, 0, 1)), ("look", (0,), (
            ((0,), END), ((1,), AGAIN), ((2,), END))))
        self.check(plan, [(0, 1, 2), (1, 2, 0)], ("tells", 0, 1, None))
        # From these two an again is equally likely: of 0 and 2 the one that lies ahead is twice as likely.
        self.check(plan, [(0, 1, 2), (2, 0, 1)], ("tells", 0, 1, ((0,),)))
        self.check(plan, [(0, 1, 2), (0, 2, 1)], QUIET)

    def test_the_first_two_rows_where_later_ones_have_unlike_agains(self):
        plan = ("mix", ((0, 1, 2), (0, 1, 2), (1, 2, 0), (2, 0, 1)), ("look", (0,), (
            ((0,), END), ((1,), AGAIN), ((2,), END))))
        self.check(plan, [(0, 1, 2), (2, 0, 1), (1, 2, 0)], ("tells", 0, 1, ((0,),)))
        self.check(plan, [(0, 1, 2), (0, 2, 1), (1, 2, 0), (2, 0, 1)], ("tells", 0, 2, None))

    def test_like_agains(self):
        plan = ("mix", COIN, ("look", (0,), (((0,), END), ((1,), AGAIN))))
        self.check(plan, PAIRS, QUIET)
        self.check(plan, [(0, 1), (1, 0), (0, 0)], ("tells", 0, 2, None))

    def test_like_agains_and_unlike_traces(self):
        # An again has a chance of 1/4 from the first two, but the 0 has 2/3 from the one and 1/3 from the other.
        plan = ("mix", ((0, 1, 2, 3), (0, 1, 2, 3), (1, 0, 2, 3), (2, 0, 1, 3)), ("look", (0,), (
            ((0,), END), ((1,), END), ((2,), AGAIN), ((3,), END))))
        self.check(plan, [(0, 1, 2, 3), (1, 0, 2, 3)], ("tells", 0, 1, ((0,),)))
        self.check(plan, [(0, 1, 2, 3), (2, 0, 1, 3)], ("tells", 0, 1, None))
        self.check(plan, [(0, 1, 2, 3), (0, 1, 2, 1)], QUIET)

    def test_eight_rows_of_eight_cards(self):
        row = (0, 1, 2, 3, 4, 5, 6, 7)
        rows = [row[turn:] + row[:turn] for turn in range(8)]
        ways = tuple([((card,), ("end", (1, 2))) for card in range(8)])
        self.check(("mix", cut(8, row), ("look", (0,), ways)), rows, QUIET)
        self.check(("mix", cut(8, row[:7]), ("look", (0,), ways)), rows, ("tells", 0, 1, ((0,),)))


class QuietBut(QuietCase):

    def test_one_mark_for_all(self):
        self.check_but(OPEN, PAIRS, [3, 3], ("tells", 0, 1, ((0,),)))
        self.check_but(HUSHED, PAIRS, [3, 3], QUIET)

    def test_unlike_marks(self):
        self.check_but(OPEN, PAIRS, [0, 1], QUIET)
        self.check_but(OPEN, PAIRS, (1, 0), QUIET)
        self.check_but(PATIENT, PAIRS, [-5, 5], QUIET)
        self.check_but(OPEN, [(0, 1), (1, 0), (2, 0)], [10 ** 30, 10 ** 30 + 1, 0], QUIET)

    def test_two_kinds(self):
        rows = [(0, 1), (1, 0), (0, 2), (1, 2)]
        self.check_but(OPEN, rows, [0, 1, 0, 1], QUIET)
        self.check_but(OPEN, rows, [0, 0, 1, 1], ("tells", 0, 1, ((0,),)))
        self.check_but(OPEN, rows, [0, 1, 1, 0], ("tells", 0, 3, ((0,),)))
        self.check_but(OPEN, rows, [1, 0, 0, 2], ("tells", 1, 2, ((0,),)))
        self.check_but(OPEN, rows, [0, 1, 2, 2], ("tells", 2, 3, ((0,),)))
        self.check_but(OPEN, [(0, 1), (1, 0), (2, 0), (1, 0)], [0, 1, 1, 0], ("tells", 0, 3, ((0,),)))

    def test_agains(self):
        self.check_but(PATIENT, [(0, 1), (1, 0), (1, 0)], [0, 1, 0], ("tells", 0, 2, None))
        self.check_but(PATIENT, [(0, 1), (1, 0), (1, 0)], [0, 1, 1], QUIET)

    def test_one_row_alone(self):
        self.check_but(OPEN, [(0, 1)], [4], QUIET)


class Knows(QuietCase):

    def check_knows(self, plan, rows, weights, trace, due):
        for handed in (list, tuple):
            told = knows(plan, handed(rows), handed(weights), trace)
            self.assertEqual(told, due)
            if due is not None:
                self.assertEqual([type(told)] + [type(part) for part in told], [tuple] * (len(rows) + 1))
                self.assertEqual([gcd(*part) for part in told], [1] * len(rows))

    def test_told_apart_wholly(self):
        self.check_knows(OPEN, PAIRS, [HALF, HALF], ((0,),), (ONE, NONE))
        self.check_knows(OPEN, PAIRS, [(1, 9), (8, 9)], ((1,),), (NONE, ONE))

    def test_told_apart_in_part(self):
        self.check_knows(SOFT, PAIRS, [HALF, HALF], ((0,),), ((2, 3), (1, 3)))
        self.check_knows(SOFT, PAIRS, [HALF, HALF], ((1,),), ((1, 3), (2, 3)))
        self.check_knows(SOFT, PAIRS, [(1, 4), (3, 4)], ((0,),), ((2, 5), (3, 5)))
        self.check_knows(SOFT, PAIRS, [(1, 3), (2, 3)], ((0,),), (HALF, HALF))

    def test_quiet(self):
        for weights in ([HALF, HALF], [(1, 7), (6, 7)], [NONE, ONE], [ONE, NONE]):
            for trace in (((0,),), ((1,),)):
                self.check_knows(HUSHED, PAIRS, weights, trace, tuple(weights))
            self.check_knows(END, PAIRS, weights, (), tuple(weights))

    def test_weights_of_nought(self):
        rows = [(0, 1), (1, 0), (1, 1)]
        self.check_knows(SOFT, rows, [NONE, HALF, HALF], ((1,),), (NONE, (2, 5), (3, 5)))
        self.check_knows(SOFT, rows, [ONE, NONE, NONE], ((1,),), (ONE, NONE, NONE))
        self.check_knows(SOFT, rows, [HALF, NONE, HALF], ((0,),), (ONE, NONE, NONE))

    def test_what_cannot_be_seen(self):
        for trace in ((), ((2,),), ((0, 1),), ((0,), (0,)), ((),), ((10 ** 30,),), ((-1,),)):
            self.check_knows(SOFT, PAIRS, [HALF, HALF], trace, None)
        self.check_knows(END, PAIRS, [HALF, HALF], ((0,),), None)

    def test_what_can_be_seen_of_rows_of_weight_nought_alone(self):
        self.check_knows(OPEN, PAIRS, [ONE, NONE], ((1,),), None)
        self.check_knows(OPEN, [(0, 1), (1, 0), (2, 0)], [HALF, NONE, HALF], ((1,),), None)

    def test_agains_are_not_counted(self):
        self.check_knows(PATIENT, PAIRS, [HALF, HALF], ((0,),), (HALF, HALF))
        self.check_knows(PATIENT, PAIRS, [(1, 5), (4, 5)], ((0,),), ((1, 5), (4, 5)))
        self.check_knows(PATIENT, PAIRS, [HALF, HALF], ((1,),), None)
        plan = ("mix", ((0, 1, 2), (0, 1, 2), (1, 2, 0), (2, 0, 1)), ("look", (0,), (
            ((0,), END), ((1,), AGAIN), ((2,), END))))
        self.check_knows(plan, [(0, 1, 2), (1, 2, 0)], [HALF, HALF], ((0,),), ((4, 7), (3, 7)))

    def test_one_row_alone(self):
        self.check_knows(SOFT, [(0, 1)], [ONE], ((1,),), (ONE,))

    def test_like_rows(self):
        self.check_knows(OPEN, [(0, 1), (0, 1), (1, 0)], [(1, 6), (1, 3), HALF], ((0,),), ((1, 3), (2, 3), NONE))


class Refused(QuietCase):

    def test_no_way(self):
        self.refuses(NoWay, PICKY, [(3, 0)], (3,))
        self.refuses(NoWay, PICKY, [(0, 1), (1, 7)], (7,))

    def test_no_end(self):
        self.refuses(NoEnd, PICKY, [(2, 0)])
        self.refuses(NoEnd, PICKY, [(0, 1), (0, 0), (2, 0)])
        self.refuses(NoEnd, AGAIN, PAIRS)

    def test_the_first_of_the_rows(self):
        self.refuses(NoEnd, PICKY, [(2, 0), (3, 0)])
        self.refuses(NoWay, PICKY, [(3, 0), (2, 0)], (3,))
        self.refuses(NoWay, PICKY, [(4, 0), (3, 0)], (4,))
        self.refuses(NoWay, PICKY, [(3, 0), (4, 0)], (3,))
        self.refuses(NoEnd, PICKY, [(0, 0), (2, 0), (1, 5), (3, 0)])
        self.refuses(NoWay, PICKY, [(0, 0), (1, 5), (2, 0), (3, 0)], (5,))

    def test_ahead_of_what_is_told_apart(self):
        self.refuses(NoWay, PICKY, [(0, 1), (1, 1), (3, 0)], (3,))
        self.refuses(NoEnd, PICKY, [(0, 1), (1, 1), (2, 0)])


class AtLarge(QuietCase):

    def due(self, reckoners, marks):
        for one, other in combinations(range(len(reckoners)), 2):
            if marks[one] != marks[other]:
                continue
            if reckoners[one].again != reckoners[other].again:
                return ("tells", one, other, None)
            sums = [self.sums(reckoners[each]) for each in (one, other)]
            unlike = [trace for trace in set(sums[0]) | set(sums[1]) if sums[0].get(trace, 0) != sums[1].get(trace, 0)]
            if unlike:
                return ("tells", one, other, min(unlike))
        return QUIET

    def sums(self, reckoner):
        return {trace: sum(results.values()) / (1 - reckoner.again) for trace, results in reckoner.ends.items()}

    def check_known(self, source, plan, rows, reckoners):
        parts = [source.randint(0, 3) for row in rows]
        parts[source.randrange(len(rows))] += 1
        weights = [Fraction(part, sum(parts)) for part in parts]
        for trace in [(), ((0,),), ((0,), (1,))] + sorted(reckoners[0].ends):
            shares = [weight * self.sums(each).get(trace, 0) for weight, each in zip(weights, reckoners)]
            due = tuple([as_tuple(share / sum(shares)) for share in shares]) if sum(shares) else None
            self.assertEqual(knows(plan, rows, [as_tuple(weight) for weight in weights], trace), due)

    def test_against_every_single_walk(self):
        source = Random(50)
        met = {}
        for step in range(4000):
            many = source.randint(2, 4)
            plan = some_plan(source, many, 4)
            while plans_in(plan) > 60:
                plan = some_plan(source, many, 4)
            rows = [tuple([source.randint(0, 1) for place in range(many)]) for row in range(source.randint(1, 4))]
            reckoners = [Reckoner(plan, row) for row in rows]
            wrong = [each for each in reckoners if each.missing or each.again == 1]
            if wrong:
                kind = NoWay if wrong[0].missing else NoEnd
                met[kind] = met.get(kind, 0) + 1
                with self.assertRaises(kind):
                    quiet(plan, rows)
                continue
            due = self.due(reckoners, [0] * len(rows))
            self.check(plan, rows, due)
            marks = [source.randint(0, 1) for row in rows]
            self.check_but(plan, rows, marks, self.due(reckoners, marks))
            self.check_known(source, plan, rows, reckoners)
            kind = (due[0], due[0] == "tells" and due[3] is None)
            met[kind] = met.get(kind, 0) + 1
        self.assertEqual(len(met), 5)
        self.assertGreater(min(met.values()), 50)


class AskersOwn(QuietCase):

    def test_handed_in_stays(self):
        rows = [(0, 1), (1, 0)]
        marks = [2, 2]
        weights = [HALF, HALF]
        quiet(SOFT, rows)
        quiet_but(SOFT, rows, marks)
        knows(SOFT, rows, weights, ((0,),))
        self.assertEqual((rows, marks, weights), ([(0, 1), (1, 0)], [2, 2], [HALF, HALF]))

    def test_asked_again(self):
        rows = [(0, 1), (1, 0)]
        for step in range(3):
            self.check(SOFT, rows, ("tells", 0, 1, ((0,),)))
            self.check(HUSHED, rows, QUIET)
            self.refuses(NoWay, PICKY, [(3, 0)], (3,))
        rows[1] = (0, 1)
        self.check(SOFT, rows, QUIET)


if __name__ == "__main__":
    unittest.main()
