import unittest
from fractions import Fraction
from itertools import permutations, product
from random import Random
from time import monotonic

from hushcards.errors import CardError
from hushcards.fewest import depth_in, fewest
from hushcards.plans import is_plan
from hushcards.quiet import quiet
from hushcards.right import judged
from hushcards.shuffles import cut, pile_cut, pile_mix

END = ("end", (0,))
AGAIN = ("again",)
COIN = ((0, 1), (1, 0))
STAY = ((0, 1),)
BITS = tuple(product((0, 1), repeat=2))
# Turns two pairs, perhaps, both or none.
TURN4 = pile_mix(4, ((0, 2), (1, 3)))
# Turns the first pair, perhaps, and exchanges the two others with it.
TURN6 = pile_mix(6, ((0, 4, 5), (1, 2, 3)))
# Turns two rows of three cards round, both by as much.
ROUND6 = pile_cut(6, ((0, 3), (1, 4), (2, 5)))


def pairs_of(bits):
    return tuple([card for bit in bits for card in (bit, 1 - bit)])


ONED = [(pairs_of(bits), pairs_of([(bits[0] + bits[1]) % 2])) for bits in BITS]
ANDED = [(pairs_of(bits + (0,)), pairs_of([bits[0] * bits[1]])) for bits in BITS]
TURNS = ((1, 0, 0), (0, 1, 0), (0, 0, 1))
# Whether two rows of three cards are turned alike.
ALIKE = [(TURNS[one] + TURNS[other], (int(one == other),)) for one, other in ((0, 0), (0, 1), (1, 1), (2, 0))]


class DepthIn(unittest.TestCase):

    def check(self, plan, menu, due):
        told = depth_in(plan, menu)
        self.assertEqual(told, due)
        if due is not None:
            self.assertIs(type(told), int)

    def test_ends_alone(self):
        self.check(END, (COIN,), 0)
        self.check(("end", (1, 0)), (COIN, STAY), 0)

    def test_mixes(self):
        self.check(("mix", COIN, END), (COIN,), 1)
        self.check(("mix", COIN, END), (STAY, STAY, COIN), 1)
        self.check(("mix", COIN, ("mix", STAY, ("mix", COIN, END))), (COIN, STAY), 3)

    def test_mixes_that_do_not_stand_there(self):
        self.check(("mix", COIN, END), (STAY,), None)
        self.check(("mix", COIN[::-1], END), (COIN,), None)
        self.check(("mix", COIN + COIN, END), (COIN,), None)
        self.check(("mix", COIN, ("mix", STAY, END)), (COIN,), None)
        self.check(("mix", STAY, ("mix", COIN, END)), (COIN,), None)

    def test_looks(self):
        self.check(("look", (0,), (((0,), END),)), (COIN,), 1)
        self.check(("look", (1,), (((0,), END), ((1,), END), ((5,), END))), (COIN,), 1)
        self.check(("look", (0, 1), (((0, 0), END),)), (COIN,), None)
        self.check(("look", (0,), (((0,), END), ((1,), ("look", (1, 0), (((0, 0), END),))))), (COIN,), None)

    def test_lays_and_agains(self):
        self.check(AGAIN, (COIN,), None)
        self.check(("lay", (1, 0), END), (COIN,), None)
        self.check(("lay", (1, 0), END), (((1, 0),),), None)
        self.check(("mix", COIN, AGAIN), (COIN,), None)
        self.check(("mix", COIN, ("lay", (0, 1), END)), (COIN,), None)
        for ways in ((((0,), END), ((1,), AGAIN)), (((0,), AGAIN), ((1,), END))):
            self.check(("look", (0,), ways), (COIN,), None)

    def test_the_greatest_number_one_behind_the_other(self):
        deep = ("mix", COIN, ("look", (0,), (((0,), END), ((1,), ("mix", COIN, END)))))
        self.check(deep, (COIN,), 3)
        self.check(("look", (0,), (((0,), deep), ((1,), END))), (COIN,), 4)
        self.check(("look", (0,), (((0,), END), ((1,), deep))), (COIN,), 4)
        self.check(("look", (0,), (((0,), deep), ((1,), ("mix", STAY, deep)))), (COIN, STAY), 5)
        plan = END
        for step in range(11):
            plan = ("mix", COIN, plan)
        self.check(plan, (COIN,), 11)


class FewestCase(unittest.TestCase):

    def check_found(self, deals, menu, most, depth):
        """Told is a plan of this depth that is right, quiet and of the menu; None if the depth is None."""
        told = fewest(deals, menu, most)
        if depth is None:
            self.assertIsNone(told)
            return
        self.assertIsNotNone(told, (deals, menu, most))
        self.assertIs(is_plan(told, len(deals[0][0])), True)
        self.assertEqual(depth_in(told, menu), depth, told)
        self.assertEqual(judged(told, deals), ("right",))
        self.assertEqual(quiet(told, [row for row, due in deals]), ("quiet",))

    def check(self, deals, menu, depth):
        for most in range(4):
            self.check_found(deals, menu, most, depth if depth is not None and depth <= most else None)


class Fewest(FewestCase):

    def test_an_end_alone(self):
        self.check([((4,), (4,))], (((0,),),), 0)
        self.check([((0, 1), (1,)), ((1, 0), (0,))], (COIN,), 0)
        self.check([((0, 1), (1, 0)), ((1, 0), (0, 1))], (COIN,), 0)
        self.check([((3, 3, 4), (3, 4, 3))], (cut(3, (0, 1, 2)),), 0)
        self.check([((5, 6, 7), (7, 5)), ((6, 6, 8), (8, 6)), ((5, 5, 5), (5, 5))], (cut(3, (0, 1, 2)),), 0)

    def test_unlike_places_for_like_cards(self):
        self.check([((1, 0), (1, 1))], (COIN,), None)
        self.check([((1, 1), (1, 1))], (COIN,), 0)
        self.check([((1, 0, 1), (1, 1)), ((0, 1, 0), (0, 0))], (cut(3, (0, 1, 2)),), 0)
        self.check([((1, 0, 1), (1, 1)), ((0, 0, 1), (0, 0))], (((0, 1, 2),),), None)

    def test_one_mix_and_one_look(self):
        self.check(ONED, (TURN4,), 2)
        self.check([(row, due[:1]) for row, due in ONED], (TURN4,), 2)
        self.check([(row, due[1:]) for row, due in ONED], (TURN4,), 2)
        self.check(ANDED, (TURN6,), 2)
        self.check([((0, 1), (1,)), ((1, 0), (1,))], (COIN,), 2)

    def test_one_look_alone_is_never_quiet(self):
        deals = [((0, 1, 2), (1,)), ((1, 2, 0), (2,)), ((2, 1, 0), (0,))]
        self.check(deals, (((0, 1, 2),),), None)
        self.check([((0, 1), (1,)), ((1, 0), (1,))], (STAY,), None)

    def test_one_mix_and_two_looks(self):
        self.check(ALIKE, (ROUND6,), 3)
        self.check(ALIKE, (((1, 0, 2, 3, 4, 5),), ROUND6, TURN6), 3)

    def test_two_mixes_and_one_look(self):
        one = ((0, 1, 2, 3), (1, 0, 3, 2))
        other = ((0, 1, 2, 3), (2, 3, 0, 1))
        rows = [(5, 6, 7, 8), (6, 5, 8, 7), (7, 8, 5, 6), (8, 7, 6, 5)]
        # Only behind both mixes each of these rows is as likely from each of them.
        self.check([(row, (5,)) for row in rows], (one, other), 3)
        self.check([(row, (8, 6)) for row in rows], (other, one), 3)
        self.check([(row, (5,)) for row in rows[:2]], (one, other), 2)
        self.check([(row, (5,)) for row in rows], (one,), None)
        self.check([(row, (5,)) for row in rows], (one, other, cut(4, (0, 1, 2, 3))), 3)

    def test_shuffles_that_are_not_even(self):
        third = ((0, 1, 2, 3), (0, 1, 2, 3), (1, 0, 3, 2))
        quarter = ((0, 1, 2, 3), (1, 0, 3, 2), (1, 0, 3, 2), (1, 0, 3, 2))
        half = ((0, 1, 2, 3), (0, 1, 2, 3), (1, 0, 3, 2), (1, 0, 3, 2))
        self.check(ONED, (third,), None)
        self.check(ONED, (quarter, third), None)
        self.check(ONED, (third, quarter, half), 2)

    def test_nothing_within(self):
        self.check([((0, 1), (2,)), ((1, 0), (2,))], (COIN,), None)
        self.check(ONED, (cut(4, (0, 1)), cut(4, (2, 3))), None)
        self.check(ANDED, (TURN6[:1],), None)

    def test_what_is_right_and_tells(self):
        deals = [((0, 1, 5), (1,)), ((1, 0, 5), (1,))]
        self.check(deals, (((0, 1, 2), (0, 1, 2), (1, 0, 2)),), None)
        self.check(deals, (((0, 1, 2), (1, 0, 2)),), 2)

    def test_one_deal(self):
        self.check([((2, 3, 4), (4, 2, 3))], (cut(3, (0, 1, 2)),), 0)
        self.check([((2, 3, 4), (4, 2, 5))], (cut(3, (0, 1, 2)), cut(3, (0, 1))), None)

    def test_the_number_is_kept_to(self):
        for most in range(4):
            self.check_found(ONED, (TURN4,), most, 2 if most >= 2 else None)
            self.check_found(ALIKE, (ROUND6,), most, 3 if most >= 3 else None)

    def test_handed_in_stays(self):
        deals = [((0, 1), (1,)), ((1, 0), (1,))]
        first = fewest(deals, (COIN,), 3)
        self.assertEqual(deals, [((0, 1), (1,)), ((1, 0), (1,))])
        self.assertEqual(fewest(deals, (COIN,), 3), first)


def right_end(state, dues):
    """By trying all places in all orders; a state is a dict from rows to lists of Fractions here."""
    many = len(next(iter(state)))
    for places in permutations(range(many), len(dues[0])):
        if all([tuple([row[place] for place in places]) == due for row, weights in state.items()
                for due, weight in zip(dues, weights) if weight]):
            return True
    return False


def mixed(state, shuffle):
    made = {}
    for row, weights in state.items():
        for order in shuffle:
            lying = tuple([row[place] for place in order])
            elder = made.get(lying, [Fraction(0)] * len(weights))
            made[lying] = [one + other / len(shuffle) for one, other in zip(elder, weights)]
    return made


def looked(state, place):
    parts = {}
    for row, weights in state.items():
        parts.setdefault(row[place], {})[row] = weights
    return list(parts.values())


def found(state, dues, menu, depth):
    """Whether there is a plan of at most this depth, by trying all that a menu allows."""
    if right_end(state, dues):
        return True
    if depth == 0:
        return False
    for shuffle in menu:
        if found(mixed(state, shuffle), dues, menu, depth - 1):
            return True
    for place in range(len(next(iter(state)))):
        parts = looked(state, place)
        sums = [[sum(column) for column in zip(*part.values())] for part in parts]
        if all([len(set(each)) == 1 for each in sums]):
            if all([found(part, dues, menu, depth - 1) for part in parts]):
                return True
    return False


def least_depth(deals, menu, most):
    state = {}
    for number, (row, due) in enumerate(deals):
        state.setdefault(row, [Fraction(0)] * len(deals))[number] = Fraction(1)
    for depth in range(most + 1):
        if found(state, [due for row, due in deals], menu, depth):
            return depth
    return None


def every_plan(many, size, menu, cards, depth):
    """All plans of a menu of at most this depth whose looks have a way for each of the cards."""
    made = [("end", places) for places in permutations(range(many), size)]
    if depth == 0:
        return made
    inner = every_plan(many, size, menu, cards, depth - 1)
    for shuffle in menu:
        made.extend([("mix", shuffle, plan) for plan in inner])
    for place in range(many):
        for plans in product(inner, repeat=len(cards)):
            made.append(("look", (place,), tuple([((card,), plan) for card, plan in zip(cards, plans)])))
    return made


class AtLarge(FewestCase):

    def some_shuffle(self, source, many):
        kind = source.randint(0, 3)
        places = source.sample(range(many), many)
        if kind == 0:
            return cut(many, tuple(places[:source.randint(1, many)]))
        if kind == 1 and many >= 4:
            half = many // 2
            return pile_mix(many, (tuple(places[:half]), tuple(places[half:2 * half])))
        if kind == 2 and many == 6:
            return pile_mix(many, (tuple(places[:2]), tuple(places[2:4]), tuple(places[4:])))
        return tuple([tuple(source.sample(range(many), many)) for order in range(source.randint(1, 6))])

    def some_deals(self, source, many, count, greatest):
        rows = []
        cards = [source.randint(0, greatest) for place in range(many)]
        cards[0] = 0
        cards[1] = 1
        while len(rows) < count:
            row = tuple(source.sample(cards, many))
            if row not in rows:
                rows.append(row)
            elif source.random() < 0.2:
                count = len(rows)
        size = source.randint(1, min(2, many))
        kind = source.random()
        if kind < 0.4:
            due = tuple(source.sample(cards, size))
            return [(row, due) for row in rows]
        if kind < 0.7:
            return [(row, tuple([(0, 1)[source.randint(0, 1)]] + source.sample(cards, size - 1))) for row in rows]
        return [(row, tuple(source.sample(row, size))) for row in rows]

    def test_against_a_search_of_the_tests_own(self):
        source = Random(81)
        met = {}
        for step in range(700):
            many = source.choice([2, 3, 3, 4, 4, 4, 5])
            menu = tuple([self.some_shuffle(source, many) for shuffle in range(source.randint(1, 2))])
            deals = self.some_deals(source, many, source.randint(1, 4), source.choice([1, 1, 2, 4]))
            most = 3 if many < 5 else 2
            depth = least_depth(deals, menu, most)
            met[depth] = met.get(depth, 0) + 1
            for each in range(most + 1):
                self.check_found(deals, menu, each, depth if depth is not None and depth <= each else None)
        self.assertEqual(set(met), {None, 0, 2, 3})
        self.assertGreater(min(met.values()), 3)

    def test_six_cards_against_the_same_search(self):
        source = Random(85)
        asked = [(ANDED, (TURN6,)), (ANDED, (ROUND6, TURN6)), (ALIKE, (ROUND6,)), (ALIKE, (TURN6, ROUND6))]
        for step in range(60):
            menu = tuple([self.some_shuffle(source, 6) for shuffle in range(1 + step % 2)])
            asked.append((self.some_deals(source, 6, source.randint(2, 4), source.choice([1, 1, 2, 5])), menu))
        met = {}
        for deals, menu in asked:
            depth = least_depth(deals, menu, 3)
            met[depth] = met.get(depth, 0) + 1
            self.check(deals, menu, depth)
        self.assertEqual(set(met), {None, 0, 2, 3})

    def test_against_every_single_plan(self):
        source = Random(82)
        met = {}
        for many, count, greatest in [(2, 2, 1)] * 8 + [(3, 2, 1)] * 6 + [(3, 3, 1)] * 6:
            menu = tuple([self.some_shuffle(source, many) for shuffle in range(1 if many == 3 else 2)])
            deals = self.some_deals(source, many, count, greatest)
            size = len(deals[0][1])
            depths = [None]
            for plan in every_plan(many, size, menu, (0, 1), 2):
                if self.is_right_and_quiet(plan, deals):
                    depths.append(depth_in(plan, menu))
            depth = min([each for each in depths if each is not None], default=None)
            met[depth] = met.get(depth, 0) + 1
            self.check_found(deals, menu, 2, depth)
        self.assertEqual(set(met), {None, 0, 2})

    def is_right_and_quiet(self, plan, deals):
        try:
            return judged(plan, deals) == ("right",) and quiet(plan, [row for row, due in deals]) == ("quiet",)
        except CardError:
            return False


class Greatest(FewestCase):

    def test_four_deals_of_six_unlike_cards(self):
        source = Random(83)
        row = (0, 1, 2, 3, 4, 5)
        rows = [row[turn:] + row[:turn] for turn in range(4)]
        wide = tuple([tuple(source.sample(range(6), 6)) for order in range(6)])
        menu = (cut(6, row), wide, pile_mix(6, ((0, 1), (2, 3), (4, 5))))
        self.check([(each, (9,)) for each in rows], menu, None)
        self.check([(each, (0,)) for each in rows], menu, 2)
        self.check([(each, (5, 4, 3, 2, 1, 0)) for each in rows], menu, 2)

    def test_many_ways(self):
        row = (0, 1, 2, 3, 4, 5)
        shuffle = tuple([tuple(order) + (3, 4, 5) for order in permutations(range(3))])
        rows = [(0, 1, 2, 3, 4, 5), (1, 0, 2, 3, 4, 5), (2, 1, 0, 3, 4, 5), (1, 2, 0, 3, 4, 5)]
        self.check([(each, (0, 1, 2)) for each in rows], (shuffle,), 3)
        self.check([(each, (2,)) for each in rows], (cut(6, row), shuffle), 3)

    def test_at_large(self):
        source = Random(84)
        for step in range(40):
            cards = [source.randint(0, 2) for place in range(4)] + [0, 1]
            rows = sorted(set([tuple(source.sample(cards, 6)) for step in range(9)]))[:4]
            deals = [(row, (source.randint(0, 1), source.randint(0, 2))) for row in rows]
            menu = tuple([tuple([tuple(source.sample(range(6), 6)) for order in range(6)]) for shuffle in range(3)])
            begun = monotonic()
            told = fewest(deals, menu, 3)
            self.assertLess(monotonic() - begun, 5)
            if told is not None:
                self.check_found(deals, menu, 3, depth_in(told, menu))


if __name__ == "__main__":
    unittest.main()
