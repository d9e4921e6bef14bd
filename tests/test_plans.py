import unittest
from fractions import Fraction
from itertools import permutations, product
from math import gcd
from random import Random

from hushcards.errors import CardError, NoEnd, NoWay
from hushcards.plans import again_chance, is_plan, mean_steps, plans_in, walked
from hushcards.shuffles import cut
from plain import Reckoner, as_tuple, some_plan

END = ("end", (0,))
AGAIN = ("again",)
ONE = (1, 1)
NONE = (0, 1)
COIN = ((0, 1), (1, 0))
COIN4 = ((0, 1, 2, 3), (1, 2, 3, 0))

NO_PLANS = (
    None, True, False, 0, 1, -1, 10 ** 400, "", "end", "again", "e", [], ["again"], ["end", (0,)], {}, {"end": (0,)},
    {0: "again"}, (), ((),), (None,), (0,), (True,), (("again",),), (["again"],), (("end",), (0,)),
    ("stop",), ("Again",), ("again ",), ("", (0,)), ("ends", (0,)), ("stay", (0, 1, 2), END),
    (None, (0, 1, 2), END), (["look"], (0,), (((0,), END),)), ((), (), ()),
)


def chain(count, inmost=END, order=(0, 1, 2)):
    plan = inmost
    for step in range(count):
        plan = ("lay", order, plan)
    return plan


def look_of(inner, places=(0, 1)):
    every = list(product(range(10), repeat=len(places)))
    return ("look", places, tuple(zip(every, inner)))


class IsPlan(unittest.TestCase):

    def holds(self, thing, many=3):
        self.assertIs(is_plan(thing, many), True, thing)

    def misses(self, thing, many=3):
        self.assertIs(is_plan(thing, many), False, thing)
        for around in (("lay", (2, 1, 0), thing), ("mix", ((2, 1, 0), (0, 1, 2)), thing), ("look", (1,), (((3,), thing),)),
                       ("look", (1,), (((3,), END), ((4,), thing))), ("look", (1,), (((3,), thing), ((4,), END))),
                       ("lay", (2, 1, 0), ("look", (1,), (((3,), AGAIN), ((4,), ("mix", ((0, 1, 2),), thing)))))):
            self.assertIs(is_plan(around, 3), False, around)

    def test_of_anything(self):
        for thing in NO_PLANS:
            self.misses(thing)

    def test_again(self):
        self.holds(AGAIN)
        self.holds(AGAIN, 1)
        for thing in (("again", ()), ("again", (0,)), ("again", AGAIN), ("again", None), ("again", (0, 1, 2), END)):
            self.misses(thing)

    def test_end(self):
        for places in ((0,), (2,), (2, 0), (0, 1, 2), (1, 2, 0)):
            self.holds(("end", places))
        self.holds(("end", (0,)), 1)
        self.holds(("end", (7, 6, 5, 4, 3, 2, 1, 0)), 8)
        for thing in (("end",), ("end", (0,), END), ("end", (0,), ()), ("end", 0), ("end", 0, 1)):
            self.misses(thing)

    def test_places(self):
        for places in ((), (3,), (0, 3), (-1,), (0, -1), (0, 0), (1, 2, 1), (0, 1, 2, 0), [0], [], None, 0, "0", "012",
                       True, {0: 0}, (True,), (False,), (0, True), (False, 1), ("0",), (None,), (0, None), ((0,),),
                       ([0],), (0, []), ({},), (10 ** 400,), (0, 1, 2, 3)):
            self.misses(("end", places))
            self.misses(("look", places, (((0,), END),)))
            self.misses(("look", places, (((0, 0), END),)))
            self.misses(("look", places, (((), END),)))

    def test_places_beyond_the_count_of_cards(self):
        for many in range(1, 9):
            self.assertIs(is_plan(("end", (many - 1,)), many), True)
            self.assertIs(is_plan(("end", (many,)), many), False)

    def test_lay(self):
        self.holds(("lay", (2, 0, 1), END))
        self.holds(("lay", (0,), END), 1)
        for thing in (("lay",), ("lay", (0, 1, 2)), ("lay", END), ("lay", (0, 1, 2), END, END), ("lay", END, (0, 1, 2))):
            self.misses(thing)
        for order in ((0, 1), (0, 1, 2, 3), (0, 0, 1), (1, 2, 3), (-1, 0, 1), [0, 1, 2], (0, True, 2), (False, 1, 2),
                      ("0", 1, 2), (0, 1, None), (), None, 3, "012", True, {}, ((0, 1, 2),), (0, [1], 2)):
            self.misses(("lay", order, END))

    def test_mix(self):
        for count in range(1, 25):
            self.holds(("mix", ((2, 0, 1),) * count, END))
        self.misses(("mix", (), END))
        self.misses(("mix", ((2, 0, 1),) * 25, END))
        for thing in (("mix",), ("mix", ((0, 1, 2),)), ("mix", ((0, 1, 2),), END, END), ("mix", END)):
            self.misses(thing)
        for shuffle in ((0, 1, 2), [(0, 1, 2)], ([0, 1, 2],), ((0, 1),), ((0, 1, 2), (0, 1, 3)), None, 1, "012", True, {},
                        ((0, True, 2),), ((0, 1, 2), None), ((0, 1, 2), "012")):
            self.misses(("mix", shuffle, END))

    def test_look(self):
        self.holds(("look", (0,), (((0,), END),)))
        self.holds(("look", (2, 0), (((0, 9), AGAIN), ((1, 0), END), ((9, 9), ("lay", (0, 2, 1), END)))))
        self.holds(("look", (0,), tuple([((card,), AGAIN) for card in range(10)])))
        for thing in (("look",), ("look", (0,)), ("look", (0,), (((0,), END),), END), ("look", (((0,), END),), (0,)),
                      ("look", (0,), END)):
            self.misses(thing)

    def test_ways(self):
        for ways in ((), [], [((0,), END)], None, 0, "", "ab", True, {}, {(0,): END}, ((0,), END), (((0,),),), ((END,),),
                     (((0,), END, END),), ([(0,), END],), ((0, END),), (([0], END),), ((None, END),), (("0", END),),
                     (({}, END),), ((True, END),), (None,), (0,), ("ab",), ((),), (((0,), END), None),
                     (((0,), END), [(1,), END]), (((0,), END), ((1,),)), (((0,), END), ()), (((0,), END), "ab")):
            self.misses(("look", (0,), ways))

    def test_what_is_seen(self):
        for seen in ((), (0, 0), (10,), (-1,), (True,), (False,), ("0",), (None,), ((0,),), ([0],), ({},), (10 ** 400,)):
            self.misses(("look", (0,), ((seen, END),)))
            self.misses(("look", (0,), (((0,), END), (seen, END))))
            self.misses(("look", (0,), ((seen, END), ((9,), END))))
        for seen in ((0,), (0, 0, 0), (0, True), (False, 0), (0, 10), (0, None)):
            self.misses(("look", (0, 1), ((seen, END),)))

    def test_ways_rise(self):
        self.holds(("look", (0, 1), (((0, 1), END), ((0, 2), END), ((1, 0), END))))
        for first, second in (((0,), (0,)), ((1,), (0,)), ((9,), (8,))):
            self.misses(("look", (0,), ((first, END), (second, END))))
            self.misses(("look", (0,), ((first, END), (second, AGAIN))))
        self.misses(("look", (0, 1), (((0, 1), END), ((1, 0), END), ((0, 2), END))))
        self.misses(("look", (0, 1), (((0, 1), END), ((0, 2), END), ((0, 2), END))))

    def test_sixty_plans(self):
        self.holds(look_of([END] * 59))
        self.assertIs(is_plan(look_of([END] * 60), 3), False)
        self.holds(("lay", (0, 1, 2), look_of([AGAIN] * 58)))
        self.assertIs(is_plan(("lay", (0, 1, 2), look_of([AGAIN] * 59)), 3), False)
        wide = [look_of([END] * 4) for step in range(11)]
        self.holds(look_of(wide + [END] * 4))
        self.assertIs(is_plan(look_of(wide + [END] * 5), 3), False)
        self.assertIs(is_plan(look_of(wide + [chain(4)]), 3), False)
        self.holds(look_of(wide + [chain(3)]))

    def test_twelve_within_one_another(self):
        self.holds(chain(11))
        self.assertIs(is_plan(chain(12), 3), False)
        self.holds(chain(11, AGAIN))
        self.assertIs(is_plan(chain(12, AGAIN), 3), False)
        mixes = END
        looks = AGAIN
        for step in range(11):
            mixes = ("mix", ((1, 2, 0), (0, 1, 2)), mixes)
            looks = ("look", (1,), (((0,), looks),))
        self.holds(mixes)
        self.holds(looks)
        self.assertIs(is_plan(("mix", ((0, 1, 2),), mixes), 3), False)
        self.assertIs(is_plan(("look", (0,), (((0,), looks),)), 3), False)

    def test_one_way_alone_too_deep(self):
        self.holds(look_of([END, chain(10), AGAIN]))
        self.assertIs(is_plan(look_of([END, chain(11), AGAIN]), 3), False)
        self.assertIs(is_plan(look_of([chain(11), END]), 3), False)

    def test_one_tuple_at_very_many_places(self):
        thing = AGAIN
        for step in range(19):
            thing = look_of([thing] * 100)
        self.assertIs(is_plan(thing, 3), False)
        self.assertIs(is_plan(("end", (0,) * 100000), 3), False)

    def test_sixty_deep(self):
        for kind in range(3):
            thing = 0
            for step in range(59):
                thing = ((thing,), [thing], {"a": thing})[(step + kind) % 3]
            self.assertIs(is_plan(thing, 3), False)
            self.assertIs(is_plan(("lay", (0, 1, 2), thing), 3), False)
            self.assertIs(is_plan(("end", thing), 3), False)
            self.assertIs(is_plan(("look", (0,), thing), 3), False)
        self.assertIs(is_plan(chain(58), 3), False)

    def test_lists_stay(self):
        ways = [((0,), END)]
        places = [0]
        self.assertIs(is_plan(("look", (0,), ways), 3), False)
        self.assertIs(is_plan(("end", places), 3), False)
        self.assertEqual((ways, places), ([((0,), END)], [0]))

    def test_asked_again(self):
        for step in range(2):
            self.holds(END)
            self.misses(("end", (0, True)))


class PlansIn(unittest.TestCase):

    def test_by_hand(self):
        self.assertEqual(plans_in(END), 1)
        self.assertEqual(plans_in(AGAIN), 1)
        self.assertEqual(plans_in(("lay", (0, 1, 2), END)), 2)
        self.assertEqual(plans_in(("mix", ((0, 1, 2), (1, 0, 2)), AGAIN)), 2)
        self.assertEqual(plans_in(("look", (0,), (((0,), END),))), 2)
        plan = ("mix", ((0, 1, 2),), ("look", (0,), (((0,), END), ((1,), ("lay", (1, 0, 2), END)), ((2,), AGAIN))))
        self.assertEqual(plans_in(plan), 6)

    def test_like_plans_count_each(self):
        inner = ("look", (0,), (((0,), END), ((1,), END)))
        self.assertEqual(plans_in(("look", (1,), (((0,), inner), ((1,), inner)))), 7)

    def test_bounds(self):
        self.assertEqual(plans_in(chain(11)), 12)
        self.assertEqual(plans_in(look_of([END] * 59)), 60)
        self.assertEqual(plans_in(look_of([chain(4)] * 11)), 56)

    def test_beyond_the_bounds(self):
        self.assertEqual(plans_in(look_of([END] * 70)), 71)
        self.assertEqual(plans_in(chain(20)), 21)

    def test_kind(self):
        self.assertIs(type(plans_in(END)), int)


class WalkCase(unittest.TestCase):

    def check_form(self, told):
        self.assertIs(type(told), list)
        self.check_rising([(entry[0], entry[1]) for entry in told])
        for entry in told:
            self.assertEqual([type(part) for part in entry], [tuple, tuple, list])
            self.assertEqual([type(seen) for seen in entry[0]], [tuple] * len(entry[0]))
            self.check_rising(entry[2])

    def check_rising(self, pairs):
        things = [thing for thing, chance in pairs]
        self.assertEqual(things, sorted(set(things)))
        for thing, chance in pairs:
            self.assertEqual((type(thing), type(chance)), (tuple, tuple))
            self.assertGreater(chance[0], 0)
            self.assertGreater(chance[1], 0)
            self.assertEqual(gcd(*chance), 1)
        self.assertEqual(sum([Fraction(*chance) for thing, chance in pairs]), 1)

    def check(self, plan, row, told, again=NONE, means=None):
        self.assertIs(is_plan(plan, len(row)), True, plan)
        self.assertEqual(walked(plan, row), told)
        self.check_form(walked(plan, row))
        self.assertEqual(again_chance(plan, row), again)
        if means is not None:
            self.assertEqual(mean_steps(plan, row), means)
            self.assertIs(type(mean_steps(plan, row)), tuple)

    def refuses(self, plan, row, error, seen=()):
        for ask in (walked, again_chance, mean_steps):
            with self.assertRaises(CardError) as taken:
                ask(plan, row)
            self.assertIs(type(taken.exception), error)
            if error is NoWay:
                self.assertIn(taken.exception.seen, seen)
                self.assertIs(type(taken.exception.seen), tuple)


class Walked(WalkCase):

    def test_end(self):
        self.check(("end", (0,)), (7,), [((), ONE, [((7,), ONE)])], NONE, (NONE, NONE, NONE))
        self.check(("end", (2, 0)), (3, 4, 5), [((), ONE, [((5, 3), ONE)])], NONE, (NONE, NONE, NONE))

    def test_lay(self):
        self.check(("lay", (1, 2, 0), ("end", (0, 1, 2))), (5, 6, 7), [((), ONE, [((6, 7, 5), ONE)])],
                   NONE, (ONE, NONE, NONE))
        self.check(("lay", (1, 2, 0), ("lay", (0, 2, 1), ("end", (0, 1, 2)))), (5, 6, 7),
                   [((), ONE, [((6, 5, 7), ONE)])], NONE, ((2, 1), NONE, NONE))

    def test_mix(self):
        self.check(("mix", COIN, ("end", (1,))), (0, 1), [((), ONE, [((0,), (1, 2)), ((1,), (1, 2))])],
                   NONE, (NONE, ONE, NONE))
        self.check(("mix", COIN + COIN[:1], ("end", (0, 1))), (0, 1),
                   [((), ONE, [((0, 1), (2, 3)), ((1, 0), (1, 3))])], NONE, (NONE, ONE, NONE))
        self.check(("mix", ((1, 2, 0),), ("end", (0, 1, 2))), (5, 6, 7), [((), ONE, [((6, 7, 5), ONE)])])

    def test_results_that_become_alike(self):
        self.check(("mix", cut(3, (0, 1, 2)), ("end", (0,))), (4, 4, 9),
                   [((), ONE, [((4,), (2, 3)), ((9,), (1, 3))])])
        self.check(("mix", COIN, ("mix", COIN, ("end", (0, 1)))), (0, 1),
                   [((), ONE, [((0, 1), (1, 2)), ((1, 0), (1, 2))])], NONE, (NONE, (2, 1), NONE))

    def test_look(self):
        plan = ("look", (1, 0), (((3, 4), ("end", (0,))), ((4, 3), ("end", (1,)))))
        self.check(plan, (3, 4), [(((4, 3),), ONE, [((4,), ONE)])], NONE, (NONE, NONE, ONE))
        self.check(plan, (4, 3), [(((3, 4),), ONE, [((4,), ONE)])], NONE, (NONE, NONE, ONE))

    def test_a_look_leaves_the_cards_where_they_are(self):
        plan = ("look", (2,), (((7,), ("look", (0, 2), (((5, 7), ("end", (0, 1, 2))),))),))
        self.check(plan, (5, 6, 7), [(((7,), (5, 7)), ONE, [((5, 6, 7), ONE)])], NONE, (NONE, NONE, (2, 1)))

    def test_what_is_seen_tells_of_the_rest(self):
        plan = ("mix", cut(3, (0, 1, 2)), ("look", (0,), (((0,), ("end", (1,))), ((1,), ("end", (1, 2))))))
        self.check(plan, (0, 1, 1), [
            (((0,),), (1, 3), [((1,), ONE)]),
            (((1,),), (2, 3), [((0, 1), (1, 2)), ((1, 0), (1, 2))])], NONE, (NONE, ONE, ONE))

    def test_chances_among_those_behind_a_trace(self):
        shuffle = ((0, 1, 2),) * 3 + ((0, 2, 1), (1, 0, 2), (2, 0, 1))
        plan = ("mix", shuffle, ("look", (0,), (((4,), ("end", (1,))), ((5,), ("end", (2,))), ((6,), ("end", (1, 2))))))
        self.check(plan, (4, 5, 6), [
            (((4,),), (2, 3), [((5,), (3, 4)), ((6,), (1, 4))]),
            (((5,),), (1, 6), [((6,), ONE)]),
            (((6,),), (1, 6), [((4, 5), ONE)])])

    def test_steps_of_ways_unlike_in_length(self):
        plan = ("mix", COIN, ("look", (0,), (
            ((0,), ("lay", (1, 0), ("mix", COIN, ("look", (1,), (((0,), END), ((1,), ("lay", (0, 1), END))))))),
            ((1,), END))))
        self.check(plan, (0, 1), [
            (((0,), (0,)), (1, 4), [((1,), ONE)]),
            (((0,), (1,)), (1, 4), [((0,), ONE)]),
            (((1,),), (1, 2), [((1,), ONE)])], NONE, ((3, 4), (3, 2), (3, 2)))

    def test_traces_rise_as_tuples(self):
        plan = ("mix", cut(3, (0, 1, 2)), ("look", (0,), (
            ((0,), ("look", (1,), (((1,), END), ((2,), END)))), ((1,), END), ((2,), ("look", (1, 2), (((0, 1), END),))))))
        self.check(plan, (2, 0, 1), [
            (((0,), (1,)), (1, 3), [((0,), ONE)]),
            (((1,),), (1, 3), [((1,), ONE)]),
            (((2,), (0, 1)), (1, 3), [((2,), ONE)])], NONE, (NONE, ONE, (5, 3)))

    def test_five_cards_turned(self):
        ends = []
        for seen in sorted(set(permutations((0, 0, 1, 1, 1)))):
            ends.append((seen, END))
        plan = ("lay", (1, 0, 2, 3, 4), ("mix", cut(5, (0, 1, 2, 3, 4)), ("look", (0, 1, 2, 3, 4), tuple(ends))))
        for row in ((1, 0, 1, 1, 0), (0, 1, 1, 1, 0), (1, 0, 1, 0, 1), (0, 1, 1, 0, 1)):
            told = walked(plan, row)
            self.check_form(told)
            self.assertEqual([chance for trace, chance, results in told], [(1, 5)] * 5)
        self.assertEqual(walked(plan, (0, 1, 1, 1, 0)), walked(plan, (0, 1, 1, 1, 0)))
        self.assertEqual(mean_steps(plan, (0, 1, 1, 1, 0)), (ONE, ONE, ONE))


class WalkedAgain(WalkCase):

    def test_one_end_and_an_again(self):
        plan = ("mix", COIN[:1] + COIN, ("look", (0,), (((0,), ("end", (1,))), ((1,), AGAIN))))
        self.check(plan, (0, 1), [(((0,),), ONE, [((1,), ONE)])], (1, 3), (NONE, (3, 2), (3, 2)))
        self.check(plan, (1, 0), [(((0,),), ONE, [((1,), ONE)])], (2, 3), (NONE, (3, 1), (3, 1)))

    def test_two_ends_and_an_again(self):
        plan = ("mix", cut(3, (0, 1, 2)), ("look", (0,), (
            ((0,), ("end", (1, 2))), ((1,), AGAIN), ((2,), ("lay", (1, 0, 2), ("end", (0,)))))))
        self.check(plan, (0, 1, 2), [(((0,),), (1, 2), [((1, 2), ONE)]), (((2,),), (1, 2), [((0,), ONE)])],
                   (1, 3), ((1, 2), (3, 2), (3, 2)))

    def test_steps_ahead_of_an_again_count(self):
        plan = ("mix", COIN, ("look", (0,), (((0,), END), ((1,), ("lay", (1, 0), ("lay", (1, 0), AGAIN))))))
        self.check(plan, (0, 1), [(((0,),), ONE, [((0,), ONE)])], (1, 2), ((2, 1), (2, 1), (2, 1)))

    def test_what_was_seen_ahead_of_an_again_counts_no_more(self):
        plan = ("look", (0,), (((4,), ("mix", COIN, ("look", (0,), (((4,), ("end", (1,))), ((5,), AGAIN))))),))
        self.check(plan, (4, 5), [(((4,), (4,)), ONE, [((5,), ONE)])], (1, 2), (NONE, (2, 1), (4, 1)))

    def test_the_first_row_is_laid_anew(self):
        look = ("look", (1,), (((5,), AGAIN), ((7,), ("end", (0, 1, 2)))))
        plan = ("lay", (1, 2, 0), ("mix", ((0, 1, 2), (0, 2, 1)), look))
        self.check(plan, (5, 6, 7), [(((7,),), ONE, [((6, 7, 5), ONE)])], (1, 2), ((2, 1), (2, 1), (2, 1)))

    def test_several_agains(self):
        plan = ("mix", cut(4, (0, 1, 2, 3)), ("look", (0,), (
            ((0,), END), ((1,), AGAIN), ((2,), ("mix", COIN4, ("look", (0,), (((2,), AGAIN), ((3,), END))))),
            ((3,), AGAIN))))
        self.check(plan, (0, 1, 2, 3), [
            (((0,),), (2, 3), [((0,), ONE)]), (((2,), (3,)), (1, 3), [((3,), ONE)])],
            (5, 8), (NONE, (10, 3), (10, 3)))

    def test_an_again_that_is_not_come_to(self):
        plan = ("look", (0,), (((0,), END), ((1,), AGAIN)))
        self.check(plan, (0, 1), [(((0,),), ONE, [((0,), ONE)])], NONE, (NONE, NONE, ONE))


class Refused(WalkCase):

    def test_no_way(self):
        plan = ("look", (0, 1), (((0, 1), END), ((1, 1), END)))
        self.refuses(plan, (1, 0), NoWay, [(1, 0)])
        self.refuses(plan, (0, 0), NoWay, [(0, 0)])
        self.check(plan, (1, 1), [(((1, 1),), ONE, [((1,), ONE)])])

    def test_what_is_seen_stands_in_the_order_of_the_places(self):
        self.refuses(("look", (2, 0), (((5, 7), END),)), (5, 6, 7), NoWay, [(7, 5)])

    def test_no_way_behind_a_mix(self):
        plan = ("mix", ((0, 1, 2),) * 23 + ((2, 1, 0),), ("look", (0,), (((5,), END),)))
        self.refuses(plan, (5, 6, 7), NoWay, [(7,)])
        self.check(plan, (5, 6, 5), [(((5,),), ONE, [((5,), ONE)])])

    def test_no_way_behind_ends_and_looks(self):
        inner = ("mix", COIN, ("look", (1,), (((0,), END),)))
        plan = ("mix", COIN, ("look", (0,), (((0,), END), ((1,), inner))))
        self.refuses(plan, (0, 1), NoWay, [(1,)])
        plan = ("mix", COIN, ("look", (0,), (((0,), inner), ((1,), END))))
        self.refuses(plan, (0, 1), NoWay, [(1,)])

    def test_no_way_for_any_of_several(self):
        plan = ("mix", cut(4, (0, 1, 2, 3)), ("look", (0,), (((3,), END),)))
        self.refuses(plan, (0, 1, 2, 3), NoWay, [(0,), (1,), (2,)])

    def test_no_way_that_cannot_be_come_to(self):
        inner = ("look", (1,), (((9,), END),))
        plan = ("look", (0,), (((0,), END), ((1,), inner)))
        self.check(plan, (0, 1), [(((0,),), ONE, [((0,), ONE)])])
        self.refuses(plan, (1, 0), NoWay, [(0,)])

    def test_no_end(self):
        for plan in (AGAIN, ("lay", (1, 0), AGAIN), ("mix", COIN, AGAIN),
                     ("mix", COIN, ("look", (0,), (((0,), AGAIN), ((1,), ("lay", (1, 0), AGAIN)))))):
            self.refuses(plan, (0, 1), NoEnd)

    def test_no_end_where_none_can_be_come_to(self):
        plan = ("look", (0,), (((0,), AGAIN), ((1,), END)))
        self.refuses(plan, (0, 1), NoEnd)
        self.check(plan, (1, 0), [(((1,),), ONE, [((1,), ONE)])])

    def test_no_way_ahead_of_no_end(self):
        for ways in ((((0,), AGAIN),), (((1,), AGAIN),)):
            plan = ("mix", COIN, ("look", (0,), ways))
            self.refuses(plan, (0, 1), NoWay, [(1 - ways[0][0][0],)])
        deep = ("look", (1,), (((5,), END),))
        for ways in ((((0,), AGAIN), ((1,), deep)), (((0,), deep), ((1,), AGAIN))):
            self.refuses(("mix", COIN, ("look", (0,), ways)), (0, 1), NoWay, [(0,), (1,)])

    def test_kinds_of_refusal(self):
        self.assertRaises(CardError, walked, AGAIN, (0,))
        self.assertFalse(issubclass(NoWay, NoEnd))


class WalkedAtLarge(WalkCase):

    def test_against_every_single_walk(self):
        source = Random(17)
        met = {"told": 0, "again": 0, "NoWay": 0, "NoEnd": 0}
        for step in range(1500):
            many = source.randint(2, 4)
            plan = some_plan(source, many, 4)
            while plans_in(plan) > 60:
                plan = some_plan(source, many, 4)
            row = tuple([source.randint(0, 1) for place in range(many)])
            due = Reckoner(plan, row)
            if due.missing:
                met["NoWay"] += 1
                self.refuses(plan, row, NoWay, due.missing)
            elif due.again == 1:
                met["NoEnd"] += 1
                self.refuses(plan, row, NoEnd)
            else:
                met["again" if due.again else "told"] += 1
                self.check(plan, row, due.told(), as_tuple(due.again), due.means())
        for kind, count in met.items():
            self.assertGreater(count, 50, kind)

    def test_eight_unlike_cards(self):
        shuffle = tuple([order for order in permutations(range(8)) if order[:4] == (7, 6, 5, 4)])
        plan = ("mix", shuffle, ("mix", cut(8, (0, 2, 4, 6, 7, 5, 3, 1)), ("mix", shuffle, ("end", (0, 7, 3, 4)))))
        due = Reckoner(plan, (0, 1, 2, 3, 4, 5, 6, 7))
        self.check(plan, (0, 1, 2, 3, 4, 5, 6, 7), due.told(), NONE, (NONE, (3, 1), NONE))

    def test_many_mixes(self):
        plan = ("look", (0,), (((0,), END), ((1,), AGAIN)))
        for step in range(10):
            plan = ("mix", COIN[:1] * 23 + COIN[1:], plan)
        stays = (Fraction(11, 12) ** 10 + 1) / 2
        self.check(plan, (0, 1), [(((0,),), ONE, [((0,), ONE)])], as_tuple(1 - stays),
                   (NONE, as_tuple(10 / stays), as_tuple(1 / stays)))

    def test_beyond_the_bounds_nothing_is_refused(self):
        self.assertEqual(walked(chain(41, END, (1, 2, 0)), (5, 6, 7)), [((), ONE, [((7,), ONE)])])
        self.assertEqual(mean_steps(chain(41), (5, 6, 7)), ((41, 1), NONE, NONE))
        self.assertEqual(again_chance(look_of([END] * 70), (6, 9, 0)), NONE)
        wide = ("mix", ((0, 1),) * 25 + ((1, 0),), END)
        self.assertEqual(walked(wide, (0, 1)), [((), ONE, [((0,), (25, 26)), ((1,), (1, 26))])])


class AskersOwn(WalkCase):

    def test_told_lists_are_the_askers_own(self):
        plan = ("mix", COIN, ("look", (0,), (((0,), END), ((1,), END))))
        told = walked(plan, (0, 1))
        self.assertIsNot(told[0][2], told[1][2])
        told[0][2].append(None)
        told.append(None)
        self.assertEqual(walked(plan, (0, 1)), [(((0,),), (1, 2), [((0,), ONE)]), (((1,),), (1, 2), [((1,), ONE)])])

    def test_asked_again(self):
        plan = ("mix", COIN, ("look", (0,), (((0,), END), ((1,), AGAIN))))
        for step in range(3):
            self.check(plan, (0, 1), [(((0,),), ONE, [((0,), ONE)])], (1, 2), (NONE, (2, 1), (2, 1)))
            self.refuses(plan, (2, 1), NoWay, [(2,)])


if __name__ == "__main__":
    unittest.main()
