import unittest
from fractions import Fraction
from itertools import permutations
from math import gcd
from random import Random

from hushcards.errors import CardError, NoWay
from hushcards.plans import again_chance, plans_in, walked
from hushcards.shuffles import cut
from hushcards.states import begun, ends_of, is_quiet_look, laid_state, looked_state, mixed_state
from plain import Reckoner, as_tuple, some_plan

END = ("end", (0,))
AGAIN = ("again",)
ONE = (1, 1)
NONE = (0, 1)
HALF = (1, 2)
COIN = ((0, 1), (1, 0))
PAIRS = (((0, 1), (ONE, NONE)), ((1, 0), (NONE, ONE)))


class StateCase(unittest.TestCase):

    def check_state(self, state, many=None):
        self.assertIs(type(state), tuple)
        rows = [row for row, weights in state]
        self.assertEqual(rows, sorted(set(rows)))
        for entry in state:
            self.assertEqual([type(part) for part in (entry,) + entry], [tuple] * 3)
            self.assertGreater(max([Fraction(*weight) for weight in entry[1]]), 0)
            for weight in entry[1]:
                self.assertEqual((type(weight), [type(part) for part in weight]), (tuple, [int, int]))
                self.assertGreaterEqual(weight[0], 0)
                self.assertGreater(weight[1], 0)
                self.assertEqual(gcd(*weight), 1)
            if many is not None:
                self.assertEqual(len(entry[1]), many)

    def check(self, told, due):
        self.assertEqual(told, due)
        self.check_state(told)


def some_state(source, many, deals):
    """Rows with weights at haphazard, noughts among them."""
    rows = sorted(set([tuple([source.randint(0, 2) for place in range(many)]) for step in range(source.randint(1, 6))]))
    state = []
    for row in rows:
        weights = [Fraction(source.randint(0, 3), source.choice([1, 2, 3, 12, 35])) for deal in range(deals)]
        weights[source.randrange(deals)] += Fraction(1, 6)
        state.append((row, tuple([as_tuple(weight) for weight in weights])))
    return tuple(state)


def gathered(parts):
    """A state of tuples (row, weights), weights lists of Fractions, like rows among them."""
    together = {}
    for row, weights in parts:
        elder = together.get(row, [Fraction(0)] * len(weights))
        together[row] = [one + other for one, other in zip(elder, weights)]
    return tuple([(row, tuple([as_tuple(weight) for weight in together[row]])) for row in sorted(together)])


class Begun(StateCase):

    def test_by_hand(self):
        self.check(begun([(0, 1), (1, 0)]), PAIRS)
        self.check(begun([(5,)]), (((5,), (ONE,)),))
        self.check(begun([(1, 0), (0, 1)]), (((0, 1), (NONE, ONE)), ((1, 0), (ONE, NONE))))

    def test_like_rows(self):
        self.check(begun([(0, 1), (0, 1)]), (((0, 1), (ONE, ONE)),))
        self.check(begun([(2, 1), (0, 1), (2, 1)]), (((0, 1), (NONE, ONE, NONE)), ((2, 1), (ONE, NONE, ONE))))

    def test_rows_as_a_tuple(self):
        self.check(begun(((0, 1), (1, 0))), PAIRS)

    def test_eight_rows(self):
        rows = [(9 - number, number) for number in range(8)]
        state = begun(rows)
        self.check_state(state, 8)
        for row, weights in state:
            self.assertEqual(weights, tuple([ONE if row == each else NONE for each in rows]))


class LaidAndMixed(StateCase):

    def test_laid_by_hand(self):
        self.check(laid_state(PAIRS, (1, 0)), (((0, 1), (NONE, ONE)), ((1, 0), (ONE, NONE))))
        self.check(laid_state(PAIRS, (0, 1)), PAIRS)
        state = (((1, 5, 0), ((1, 3), HALF)), ((2, 4, 0), ((2, 3), NONE)))
        self.check(laid_state(state, (1, 2, 0)), (((4, 0, 2), ((2, 3), NONE)), ((5, 0, 1), ((1, 3), HALF))))

    def test_mixed_by_hand(self):
        half = (HALF, HALF)
        self.check(mixed_state(PAIRS, COIN), (((0, 1), half), ((1, 0), half)))
        self.check(mixed_state((((0, 1), (ONE,)),), COIN), (((0, 1), (HALF,)), ((1, 0), (HALF,))))
        self.check(mixed_state((((1, 2, 3), (ONE, (1, 5))),), cut(3, (0, 1, 2))), (
            ((1, 2, 3), ((1, 3), (1, 15))), ((2, 3, 1), ((1, 3), (1, 15))), ((3, 1, 2), ((1, 3), (1, 15)))))

    def test_rows_that_become_alike(self):
        self.check(mixed_state((((0, 0), (ONE, HALF)),), COIN), (((0, 0), (ONE, HALF)),))
        state = (((0, 1), ((1, 3), (1, 5))), ((1, 0), ((1, 6), (2, 5))))
        self.check(mixed_state(state, COIN), (((0, 1), ((1, 4), (3, 10))), ((1, 0), ((1, 4), (3, 10)))))
        self.check(mixed_state((((0, 0, 1), (ONE,)),), cut(3, (0, 1, 2)) + ((0, 1, 2),)), (
            ((0, 0, 1), (HALF,)), ((0, 1, 0), ((1, 4),)), ((1, 0, 0), ((1, 4),))))

    def test_like_orders(self):
        self.check(mixed_state(PAIRS, ((0, 1), (1, 0), (0, 1))), (
            ((0, 1), ((2, 3), (1, 3))), ((1, 0), ((1, 3), (2, 3)))))
        self.check(mixed_state(PAIRS, ((1, 0),) * 24), (((0, 1), (NONE, ONE)), ((1, 0), (ONE, NONE))))

    def test_at_large(self):
        source = Random(71)
        for step in range(300):
            many = source.randint(1, 4)
            state = some_state(source, many, source.randint(1, 4))
            shuffle = tuple([tuple(source.sample(range(many), many)) for order in range(source.randint(1, 6))])
            parts = []
            for row, weights in state:
                for order in shuffle:
                    parts.append((tuple([row[place] for place in order]), [
                        Fraction(*weight) / len(shuffle) for weight in weights]))
            self.check(mixed_state(state, shuffle), gathered(parts))
            order = shuffle[0]
            parts = [(tuple([row[place] for place in order]), [Fraction(*weight) for weight in weights])
                     for row, weights in state]
            self.check(laid_state(state, order), gathered(parts))

    def test_eight_unlike_cards(self):
        shuffle = tuple([order for order in permutations(range(8)) if order[:4] == (7, 6, 5, 4)])
        state = begun([(0, 1, 2, 3, 4, 5, 6, 7), (7, 6, 5, 4, 3, 2, 1, 0)])
        for step in range(2):
            state = mixed_state(state, shuffle)
        self.check_state(state, 2)
        self.assertEqual(len(state), 2 * 576)
        self.assertEqual(set([weight for row, weights in state for weight in weights]), {(1, 576), NONE})


class Looked(StateCase):

    def check_looked(self, state, places, due):
        told = looked_state(state, places)
        self.assertEqual(told, due)
        self.assertIs(type(told), list)
        for entry in told:
            self.assertIs(type(entry), tuple)
            self.check_state(entry[1])

    def test_by_hand(self):
        self.check_looked(PAIRS, (0,), [((0,), PAIRS[:1]), ((1,), PAIRS[1:])])
        self.check_looked(PAIRS, (1,), [((0,), PAIRS[1:]), ((1,), PAIRS[:1])])
        self.check_looked(PAIRS, (1, 0), [((0, 1), PAIRS[1:]), ((1, 0), PAIRS[:1])])

    def test_several_rows_with_one_seen(self):
        state = (((0, 5, 1), ((1, 2),)), ((0, 6, 2), ((1, 3),)), ((3, 5, 0), ((1, 6),)))
        self.check_looked(state, (0,), [((0,), state[:2]), ((3,), state[2:])])
        self.check_looked(state, (1,), [((5,), (state[0], state[2])), ((6,), (state[1],))])
        self.check_looked(state, (2, 0), [((0, 3), state[2:]), ((1, 0), state[:1]), ((2, 0), state[1:2])])

    def test_one_thing_to_be_seen(self):
        state = (((4, 0), (ONE, HALF)), ((4, 1), (NONE, HALF)))
        self.check_looked(state, (0,), [((4,), state)])

    def test_quiet_looks(self):
        half = (HALF, HALF)
        mixed = (((0, 1), half), ((1, 0), half))
        self.assertIs(is_quiet_look(mixed, (0,)), True)
        self.assertIs(is_quiet_look(mixed, (1, 0)), True)
        self.assertIs(is_quiet_look(PAIRS, (0,)), False)
        self.assertIs(is_quiet_look((((0, 1), (ONE, ONE)),), (0,)), True)
        self.assertIs(is_quiet_look((((0, 1), (ONE,)), ((1, 0), (HALF,))), (0,)), True)

    def test_sums_alone_count(self):
        state = (((0, 1), ((1, 3), (1, 6))), ((0, 2), ((1, 6), (1, 3))), ((1, 1), (HALF, HALF)))
        self.assertIs(is_quiet_look(state, (0,)), True)
        self.assertIs(is_quiet_look(state, (1,)), False)
        self.assertIs(is_quiet_look(state, (0, 1)), False)

    def test_the_last_of_what_is_seen_alone_unlike(self):
        state = (((0,), (HALF, HALF, HALF)), ((1,), ((1, 4), (1, 4), (1, 4))), ((2,), ((1, 4), (1, 4), (1, 8))))
        self.assertIs(is_quiet_look(state, (0,)), False)
        self.assertIs(is_quiet_look(state[:2], (0,)), True)
        self.assertIs(is_quiet_look((((2,), ((1, 8), (1, 4), (1, 4))),), (0,)), False)

    def test_at_large(self):
        source = Random(72)
        met = {True: 0, False: 0}
        for step in range(400):
            many = source.randint(1, 3)
            deals = source.randint(1, 3)
            state = some_state(source, many, deals)
            if source.random() < 0.5:
                state = tuple([(row, (weights[0],) * deals) for row, weights in state if weights[0] != NONE])
            if not state:
                continue
            places = tuple(source.sample(range(many), source.randint(1, many)))
            parts = {}
            for row, weights in state:
                parts.setdefault(tuple([row[place] for place in places]), []).append((row, weights))
            self.check_looked(state, places, [(seen, tuple(parts[seen])) for seen in sorted(parts)])
            due = True
            for part in parts.values():
                sums = [sum([Fraction(*weights[deal]) for row, weights in part]) for deal in range(deals)]
                due = due and len(set(sums)) == 1
            met[due] += 1
            self.assertIs(is_quiet_look(state, places), due)
        self.assertGreater(min(met.values()), 50)


class EndsOf(StateCase):

    def check_ends(self, plan, rows, due):
        for handed in (list(rows), tuple(rows)):
            told = ends_of(plan, handed)
            self.assertEqual(told, due)
            self.assertIs(type(told), list)
            for entry in told:
                self.assertEqual([type(part) for part in (entry,) + entry[:2]], [tuple] * 3)
                self.check_state(entry[2], len(rows))

    def refuses(self, plan, rows, seen):
        with self.assertRaises(CardError) as taken:
            ends_of(plan, rows)
        self.assertIs(type(taken.exception), NoWay)
        self.assertIn(taken.exception.seen, seen)

    def test_an_end_alone(self):
        self.check_ends(("end", (1, 0)), [(0, 1), (1, 0)], [((), (1, 0), PAIRS)])
        self.check_ends(END, [(3, 4), (3, 4)], [((), (0,), (((3, 4), (ONE, ONE)),))])

    def test_a_look(self):
        plan = ("look", (0,), (((0,), ("end", (1,))), ((1,), END), ((2,), END)))
        self.check_ends(plan, [(1, 0), (0, 1)], [
            (((0,),), (1,), (((0, 1), (NONE, ONE)),)), (((1,),), (0,), (((1, 0), (ONE, NONE)),))])

    def test_a_mix_and_a_look(self):
        plan = ("mix", COIN, ("look", (0,), (((0,), ("end", (1,))), ((1,), ("lay", (1, 0), END)))))
        half = (HALF, HALF)
        self.check_ends(plan, [(0, 1), (1, 0)], [
            (((0,),), (1,), (((0, 1), half),)), (((1,),), (0,), (((0, 1), half),))])

    def test_agains_are_left_out(self):
        plan = ("mix", ((0, 1), (0, 1), (1, 0)), ("look", (0,), (((0,), END), ((1,), AGAIN))))
        self.check_ends(plan, [(0, 1), (1, 0)], [(((0,),), (0,), (((0, 1), ((2, 3), (1, 3))),))])

    def test_nothing_ends(self):
        self.check_ends(AGAIN, [(0, 1), (1, 0)], [])
        self.check_ends(("mix", COIN, ("lay", (1, 0), AGAIN)), [(0, 1)], [])
        plan = ("look", (0,), (((0,), AGAIN), ((1,), END)))
        self.check_ends(plan, [(0, 1)], [])
        self.check_ends(plan, [(0, 1), (1, 0)], [(((1,),), (0,), (((1, 0), (NONE, ONE)),))])

    def test_traces_rise(self):
        plan = ("mix", cut(3, (0, 1, 2)), ("look", (0,), (
            ((0,), ("look", (1,), (((1,), END), ((2,), ("end", (2,)))))), ((1,), ("end", (1, 2))), ((2,), END))))
        third = ((1, 3),)
        self.check_ends(plan, [(2, 0, 1)], [
            (((0,), (1,)), (0,), (((0, 1, 2), third),)), (((1,),), (1, 2), (((1, 2, 0), third),)),
            (((2,),), (0,), (((2, 0, 1), third),))])

    def test_no_way(self):
        plan = ("look", (0,), (((0,), END), ((1,), AGAIN)))
        self.refuses(plan, [(2, 0)], [(2,)])
        self.refuses(plan, [(0, 1), (2, 0)], [(2,)])
        self.refuses(plan, [(2, 0), (0, 1)], [(2,)])
        self.refuses(plan, [(0, 1), (3, 0), (4, 0)], [(3,), (4,)])
        self.refuses(("mix", COIN, plan), [(0, 1), (1, 5)], [(5,)])

    def test_no_way_where_nothing_ends(self):
        plan = ("look", (1,), (((0,), AGAIN),))
        self.refuses(plan, [(0, 1)], [(1,)])
        self.refuses(plan, [(0, 0), (0, 1)], [(1,)])
        self.refuses(("mix", COIN, plan), [(0, 1)], [(1,)])

    def test_against_every_single_walk(self):
        source = Random(73)
        met = {"told": 0, "NoWay": 0, "nothing": 0}
        for step in range(1500):
            many = source.randint(2, 4)
            plan = some_plan(source, many, 4)
            while plans_in(plan) > 60:
                plan = some_plan(source, many, 4)
            rows = [tuple([source.randint(0, 1) for place in range(many)]) for row in range(source.randint(1, 4))]
            reckoners = [Reckoner(plan, row) for row in rows]
            missing = [seen for each in reckoners for seen in each.missing]
            if missing:
                met["NoWay"] += 1
                self.refuses(plan, rows, missing)
                continue
            ends = {}
            for number, each in enumerate(reckoners):
                for end, lying in each.rows.items():
                    for row, chance in lying.items():
                        weights = [Fraction(0)] * len(rows)
                        weights[number] = chance
                        ends.setdefault(end, []).append((row, weights))
            self.check_ends(plan, rows, [(end[0], end[1], gathered(ends[end])) for end in sorted(ends)])
            met["told" if ends else "nothing"] += 1
            self.check_sums(plan, rows, reckoners)
        self.assertGreater(min(met.values()), 50)

    def check_sums(self, plan, rows, reckoners):
        told = ends_of(plan, rows)
        for number, each in enumerate(reckoners):
            if each.again == 1:
                continue
            sums = {}
            for trace, places, state in told:
                sums[trace] = sum([Fraction(*weights[number]) for row, weights in state])
            ended = 1 - Fraction(*again_chance(plan, rows[number]))
            self.assertEqual(sum(sums.values()), ended)
            due = {trace: Fraction(*chance) for trace, chance, results in walked(plan, rows[number])}
            self.assertEqual({trace: part / ended for trace, part in sums.items() if part}, due)


class AskersOwn(StateCase):

    def test_told_lists_are_the_askers_own(self):
        plan = ("mix", COIN, ("look", (0,), (((0,), END), ((1,), END))))
        for ask in (lambda: ends_of(plan, [(0, 1)]), lambda: looked_state(PAIRS, (0,))):
            due = ask()
            ask().append(None)
            ask().clear()
            self.assertEqual(ask(), due)
            self.assertEqual(len(due), 2)

    def test_handed_in_stays(self):
        rows = [(1, 0), (0, 1)]
        begun(rows)
        ends_of(END, rows)
        self.assertEqual(rows, [(1, 0), (0, 1)])
        state = begun(rows)
        rows[0] = (5, 5)
        self.assertEqual(state, (((0, 1), (NONE, ONE)), ((1, 0), (ONE, NONE))))


if __name__ == "__main__":
    unittest.main()
