import unittest
from fractions import Fraction
from itertools import permutations
from math import gcd
from random import Random

from hushcards.errors import CardError, TooMany
from hushcards.orders import laid, then
from hushcards.shuffles import both, cut, is_closed, is_shuffle, pile_cut, pile_mix, same, shuffled, spanned

STAY = (0, 1, 2)
SWAP = (1, 0, 2)
LAST = (0, 2, 1)
TURN = (1, 2, 0)
TURN_BACK = (2, 0, 1)

NO_SHUFFLES = (
    None, True, False, 0, 1, 24, -1, 10 ** 400, "", "012", "0", [], [STAY], {}, {STAY: 1}, {0: STAY}, (), STAY,
    ([0, 1, 2],), ([],), ({},), (None,), (True,), (0,), ("012",), (("0", "1", "2"),), ((),), (((0, 1, 2),),),
    [[0, 1, 2]], (STAY, [1, 0, 2]), ([1, 0, 2], STAY), (STAY, None), (STAY, "012"), (STAY, 1), (STAY, ()),
    (STAY, (STAY,)), (STAY, {}), (STAY, True),
)
NO_ORDERS = (
    (0, 1), (0, 1, 2, 3), (0, 0, 1), (0, 1, 1), (1, 2, 3), (0, 1, 3), (-1, 0, 1), (0, 1, -1), (0, True, 2), (False, 1, 2),
    (0, 1, "2"), ("0", 1, 2), (0, None, 2), (None, 1, 2), (0, [1], 2), (0, (1,), 2), (0, {}, 2), (0, 1, 10 ** 400),
)


def as_tuple(value):
    return (value.numerator, value.denominator)


def likelihoods(shuffle):
    told = {}
    for order in shuffle:
        told[order] = told.get(order, 0) + Fraction(1, len(shuffle))
    return told


def likelihoods_of_both(one, other):
    told = {}
    for first in one:
        for second in other:
            order = tuple([first[place] for place in second])
            told[order] = told.get(order, 0) + Fraction(1, len(one) * len(other))
    return told


def some_shuffle(source, many, most):
    known = [tuple(source.sample(range(many), many)) for step in range(source.randint(1, 4))]
    return tuple([source.choice(known) for step in range(source.randint(1, most))])


class IsShuffle(unittest.TestCase):

    def test_shuffles(self):
        for thing in ((STAY,), (SWAP, STAY), (STAY, STAY), (TURN, TURN_BACK, STAY, TURN), (LAST,) * 24):
            self.assertIs(is_shuffle(thing, 3), True, thing)
        self.assertIs(is_shuffle(((0,),), 1), True)
        self.assertIs(is_shuffle((tuple(range(8)), (7, 6, 5, 4, 3, 2, 1, 0)), 8), True)

    def test_each_count_of_orders(self):
        for count in range(30):
            self.assertIs(is_shuffle((SWAP,) * count, 3), 1 <= count <= 24, count)
        unlike = tuple(permutations(range(5)))
        self.assertIs(is_shuffle(unlike[:24], 5), True)
        self.assertIs(is_shuffle(unlike[:25], 5), False)

    def test_of_another_count_of_cards(self):
        for many in range(1, 9):
            for asked in range(1, 9):
                self.assertIs(is_shuffle((tuple(range(many)),), asked), many == asked)

    def test_an_order_that_is_none(self):
        for order in NO_ORDERS:
            for thing in ((order,), (order, STAY), (STAY, order), (STAY, SWAP, order, TURN)):
                self.assertIs(is_shuffle(thing, 3), False, thing)

    def test_of_anything(self):
        for thing in NO_SHUFFLES:
            for many in (1, 3, 8):
                self.assertIs(is_shuffle(thing, many), False, thing)

    def test_lists_stay(self):
        thing = [[0, 1, 2], [1, 0, 2]]
        self.assertIs(is_shuffle(thing, 3), False)
        self.assertIs(is_shuffle(tuple(thing), 3), False)
        self.assertEqual(thing, [[0, 1, 2], [1, 0, 2]])

    def test_asked_again(self):
        for step in range(2):
            self.assertIs(is_shuffle((STAY,), 3), True)
            self.assertIs(is_shuffle(([0, 1, 2],), 3), False)


class Shuffled(unittest.TestCase):

    def check(self, told, due):
        self.assertEqual(told, due)
        self.assertIs(type(told), list)
        rows = [row for row, chance in told]
        self.assertEqual(rows, sorted(set(rows)))
        for entry in told:
            self.assertEqual((type(entry), type(entry[0]), type(entry[1])), (tuple, tuple, tuple))
            self.assertEqual(gcd(*entry[1]), 1)
            self.assertGreater(entry[1][0], 0)
        self.assertEqual(sum([Fraction(*chance) for row, chance in told]), 1)

    def test_one_row(self):
        self.check(shuffled([((0, 1), (1, 1))], ((0, 1), (1, 0))), [((0, 1), (1, 2)), ((1, 0), (1, 2))])
        self.check(shuffled([((1, 0), (1, 1))], ((0, 1), (1, 0))), [((0, 1), (1, 2)), ((1, 0), (1, 2))])
        self.check(shuffled([((4,), (1, 1))], ((0,),)), [((4,), (1, 1))])

    def test_laid_by_the_order_and_not_back(self):
        self.check(shuffled([((5, 6, 7), (1, 1))], (TURN,)), [((6, 7, 5), (1, 1))])
        self.check(shuffled([((5, 6, 7), (1, 1))], (TURN_BACK,)), [((7, 5, 6), (1, 1))])

    def test_like_orders(self):
        told = shuffled([((0, 1), (1, 1))], ((0, 1), (0, 1), (1, 0)))
        self.check(told, [((0, 1), (2, 3)), ((1, 0), (1, 3))])
        told = shuffled([((0, 1), (1, 1))], ((1, 0), (0, 1), (1, 0), (0, 1)))
        self.check(told, [((0, 1), (1, 2)), ((1, 0), (1, 2))])

    def test_cards_alike(self):
        self.check(shuffled([((3, 3), (1, 1))], ((0, 1), (1, 0))), [((3, 3), (1, 1))])
        told = shuffled([((0, 1, 1), (1, 1))], tuple(permutations(range(3))))
        self.check(told, [((0, 1, 1), (1, 3)), ((1, 0, 1), (1, 3)), ((1, 1, 0), (1, 3))])

    def test_rows_that_become_alike(self):
        told = shuffled([((0, 1, 1), (1, 2)), ((1, 0, 1), (1, 2))], (STAY, SWAP))
        self.check(told, [((0, 1, 1), (1, 2)), ((1, 0, 1), (1, 2))])
        told = shuffled([((0, 1), (1, 3)), ((1, 0), (2, 3))], ((0, 1), (0, 1), (1, 0)))
        self.check(told, [((0, 1), (4, 9)), ((1, 0), (5, 9))])

    def test_unlike_bottoms(self):
        told = shuffled([((0, 2), (1, 2)), ((1, 1), (1, 3)), ((2, 0), (1, 6))], ((0, 1), (1, 0)))
        self.check(told, [((0, 2), (1, 3)), ((1, 1), (1, 3)), ((2, 0), (1, 3))])

    def test_more_orders_than_a_shuffle_has_are_not_refused(self):
        told = shuffled([((0, 1), (1, 1))], ((0, 1),) * 25 + ((1, 0),))
        self.check(told, [((0, 1), (25, 26)), ((1, 0), (1, 26))])

    def test_against_all_walks(self):
        source = Random(5)
        for step in range(60):
            many = source.randint(1, 5)
            rows = sorted(set([tuple([source.randint(0, 2) for place in range(many)]) for each in range(4)]))
            shares = [source.randint(1, 6) for row in rows]
            mix = [(row, as_tuple(Fraction(share, sum(shares)))) for row, share in zip(rows, shares)]
            shuffle = some_shuffle(source, many, 24)
            due = {}
            for row, chance in mix:
                for order in shuffle:
                    changed = tuple([row[place] for place in order])
                    due[changed] = due.get(changed, 0) + Fraction(*chance) / len(shuffle)
            self.check(shuffled(mix, shuffle), [(row, as_tuple(due[row])) for row in sorted(due)])

    def test_what_is_handed_in_stays(self):
        mix = [((0, 1), (1, 3)), ((1, 0), (2, 3))]
        told = shuffled(mix, ((0, 1),))
        self.assertEqual(mix, [((0, 1), (1, 3)), ((1, 0), (2, 3))])
        self.assertEqual(told, mix)
        self.assertIsNot(told, mix)
        mix.append(((9, 9), (1, 1)))
        self.assertEqual(len(told), 2)

    def test_what_is_told_is_the_askers_own(self):
        mix = [((0, 1), (1, 1))]
        told = shuffled(mix, ((1, 0),))
        told.append(None)
        self.assertEqual(shuffled(mix, ((1, 0),)), [((1, 0), (1, 1))])


class Same(unittest.TestCase):

    def test_same(self):
        for one, other in (
                ((STAY,), (STAY,)),
                ((STAY,), (STAY, STAY, STAY)),
                ((STAY, SWAP), (SWAP, STAY)),
                ((STAY, SWAP), (SWAP, STAY, STAY, SWAP)),
                ((STAY, SWAP, STAY), (STAY, STAY, SWAP)),
                ((STAY, SWAP, STAY, STAY), (STAY,) * 6 + (SWAP,) * 2),
                ((STAY,) * 4 + (SWAP,) * 2, (SWAP,) * 3 + (STAY,) * 6)):
            self.assertIs(same(one, other), True, (one, other))
            self.assertIs(same(other, one), True, (one, other))

    def test_not_the_same(self):
        for one, other in (
                ((STAY,), (SWAP,)),
                ((STAY,), (STAY, SWAP)),
                ((STAY, SWAP), (STAY, LAST)),
                ((STAY, STAY, SWAP), (STAY, SWAP)),
                ((STAY, STAY, SWAP), (STAY, SWAP, SWAP)),
                ((STAY, STAY, SWAP), (STAY, STAY, STAY, SWAP)),
                ((STAY, SWAP), (STAY, SWAP, TURN)),
                ((TURN,), (TURN_BACK,))):
            self.assertIs(same(one, other), False, (one, other))
            self.assertIs(same(other, one), False, (one, other))

    def test_against_likelihoods(self):
        source = Random(3)
        answers = []
        for step in range(400):
            orders = [STAY, SWAP][:source.randint(1, 2)]
            one = tuple([source.choice(orders) for each in range(source.randint(1, 6))])
            other = tuple([source.choice(orders) for each in range(source.randint(1, 6))])
            self.assertIs(same(one, other), likelihoods(one) == likelihoods(other), (one, other))
            answers.append(same(one, other))
        self.assertEqual(set(answers), {True, False})


class Both(unittest.TestCase):

    def check(self, one, other, due):
        told = both(one, other)
        self.assertEqual(told, due)
        self.assertIs(type(told), tuple)
        self.assertIs(is_shuffle(told, len(one[0])), True)

    def test_first_the_one(self):
        self.check((SWAP,), (LAST,), ((1, 2, 0),))
        self.check((LAST,), (SWAP,), ((2, 0, 1),))
        self.check((SWAP,), (STAY, LAST), ((1, 0, 2), (1, 2, 0)))
        self.check((STAY, LAST), (SWAP,), ((1, 0, 2), (2, 0, 1)))

    def test_rising(self):
        self.check((TURN_BACK, TURN, STAY), (STAY,), (STAY, TURN, TURN_BACK))
        self.check((SWAP, STAY), (LAST, STAY), ((0, 1, 2), (0, 2, 1), (1, 0, 2), (1, 2, 0)))

    def test_the_shortest(self):
        self.check((SWAP,) * 24, (SWAP,) * 24, (STAY,))
        self.check((STAY, SWAP), (STAY, SWAP), (STAY, SWAP))
        self.check((STAY, SWAP), (SWAP, SWAP, STAY, STAY), (STAY, SWAP))
        self.check((STAY, TURN, TURN_BACK), (STAY, TURN), (STAY, TURN, TURN_BACK))

    def test_orders_that_stand_unequally_often(self):
        self.check((SWAP, STAY, STAY), (STAY,), (STAY, STAY, SWAP))
        self.check((SWAP, STAY, STAY), (STAY, STAY, SWAP), (STAY,) * 5 + (SWAP,) * 4)
        self.check((STAY, STAY, STAY, SWAP) * 2, (SWAP,), (STAY,) + (SWAP,) * 3)

    def test_twenty_four_orders(self):
        told = both(cut(4, (0, 1, 2, 3)), pile_mix(4, ((0,), (1,), (2,))))
        self.assertEqual(told, tuple(permutations(range(4))))
        still = (0, 1, 2, 3)
        told = both((still, still, (1, 0, 2, 3)), (still,) * 7 + ((0, 1, 3, 2),))
        due = (still,) * 14 + ((0, 1, 3, 2),) * 2 + ((1, 0, 2, 3),) * 7 + ((1, 0, 3, 2),)
        self.assertEqual(told, due)

    def test_more_are_refused(self):
        for one, other in (
                (cut(5, (0, 1, 2, 3, 4)), cut(5, (0, 1, 2, 4, 3))),
                ((STAY,) * 4 + (SWAP,), (STAY,) * 4 + (SWAP,)),
                (cut(5, (0, 1, 2, 3, 4)), pile_mix(5, ((0,), (1,), (2,), (3,))))):
            with self.assertRaises(TooMany) as taken:
                both(one, other)
            self.assertIsInstance(taken.exception, CardError)

    def test_only_the_shortest_is_held_against_the_bound(self):
        every = tuple(permutations(range(4)))
        self.assertEqual(both(every * 2, ((0, 1, 2, 3),) * 3 + ((1, 0, 2, 3),) * 2), every)

    def test_against_all_pairs(self):
        source = Random(11)
        refused = 0
        for step in range(150):
            many = source.randint(1, 4)
            one = some_shuffle(source, many, 6)
            other = some_shuffle(source, many, 6)
            likely = likelihoods_of_both(one, other)
            bottom = 1
            for chance in likely.values():
                bottom = bottom * chance.denominator // gcd(bottom, chance.denominator)
            if bottom > 24:
                refused += 1
                self.assertRaises(TooMany, both, one, other)
            else:
                due = [order for order in sorted(likely) for each in range(int(likely[order] * bottom))]
                self.check(one, other, tuple(due))
                self.assertEqual(likelihoods(due), likely)
        self.assertTrue(0 < refused < 150)


class IsClosed(unittest.TestCase):

    def test_closed(self):
        for shuffle in ((STAY,), (STAY, STAY), (STAY, SWAP), (SWAP, STAY, SWAP, STAY), (TURN, STAY, TURN_BACK),
                        tuple(permutations(range(3))), tuple(permutations(range(4))), ((0,),),
                        cut(8, (0, 1, 2, 3, 4, 5, 6, 7)), cut(5, (4, 0, 2)), pile_mix(8, ((0, 1), (2, 3), (6, 7)))):
            self.assertIs(is_closed(shuffle), True, shuffle)

    def test_orders_told_unequally_often(self):
        for shuffle in ((STAY, SWAP, SWAP), (STAY, STAY, SWAP), (STAY, TURN, TURN_BACK, TURN)):
            self.assertIs(is_closed(shuffle), False, shuffle)

    def test_an_order_twice(self):
        for shuffle in ((SWAP,), (SWAP, SWAP), (TURN,), (STAY, TURN), (STAY, TURN_BACK)):
            self.assertIs(is_closed(shuffle), False, shuffle)

    def test_one_and_then_another(self):
        for shuffle in ((STAY, SWAP, LAST), (STAY, SWAP, TURN, TURN_BACK), (STAY, SWAP, LAST, (2, 1, 0)),
                        ((0, 1, 2, 3), (1, 0, 2, 3), (0, 1, 3, 2))):
            self.assertIs(is_closed(shuffle), False, shuffle)

    def test_all_shuffles_of_unlike_orders_of_three_cards(self):
        orders = list(permutations(range(3)))
        closed = 0
        for number in range(1, 64):
            some = tuple([order for k, order in enumerate(orders) if number >> k & 1])
            due = all([tuple([one[place] for place in other]) in some for one in some for other in some])
            self.assertIs(is_closed(some), due, some)
            closed += due
        self.assertEqual(closed, 6)


class Spanned(unittest.TestCase):

    def test_none(self):
        self.assertEqual(spanned(3, []), [(0, 1, 2)])
        self.assertEqual(spanned(1, []), [(0,)])
        self.assertEqual(spanned(8, []), [(0, 1, 2, 3, 4, 5, 6, 7)])

    def test_one_order(self):
        self.assertEqual(spanned(3, [STAY]), [STAY])
        self.assertEqual(spanned(3, [SWAP]), [STAY, SWAP])
        self.assertEqual(spanned(3, [TURN]), [STAY, TURN, TURN_BACK])
        self.assertEqual(spanned(5, [(1, 0, 3, 4, 2)]), [
            (0, 1, 2, 3, 4), (0, 1, 3, 4, 2), (0, 1, 4, 2, 3),
            (1, 0, 2, 3, 4), (1, 0, 3, 4, 2), (1, 0, 4, 2, 3)])

    def test_several_orders(self):
        self.assertEqual(spanned(3, [LAST, SWAP]), sorted(permutations(range(3))))
        self.assertEqual(spanned(3, [SWAP, SWAP, STAY]), [STAY, SWAP])
        self.assertEqual(spanned(4, [(1, 0, 2, 3), (0, 1, 3, 2)]),
                         [(0, 1, 2, 3), (0, 1, 3, 2), (1, 0, 2, 3), (1, 0, 3, 2)])
        self.assertEqual(spanned(4, [(1, 2, 3, 0), (3, 2, 1, 0)]), [
            (0, 1, 2, 3), (0, 3, 2, 1), (1, 0, 3, 2), (1, 2, 3, 0),
            (2, 1, 0, 3), (2, 3, 0, 1), (3, 0, 1, 2), (3, 2, 1, 0)])

    def test_a_hundred_and_twenty(self):
        told = spanned(5, [(1, 0, 2, 3, 4), (1, 2, 3, 4, 0)])
        self.assertEqual(told, sorted(permutations(range(5))))
        self.assertIs(type(told), list)
        told = spanned(8, [(0, 1, 2, 4, 3, 5, 6, 7), (0, 1, 2, 4, 5, 6, 7, 3)])
        self.assertEqual(len(told), 120)
        self.assertEqual(told, sorted(told))
        self.assertEqual(spanned(5, list(permutations(range(5)))), sorted(permutations(range(5))))

    def test_more_are_refused(self):
        halves = [(1, 0, 2, 3, 4, 5, 6, 7), (2, 3, 0, 1, 4, 5, 6, 7), (4, 5, 6, 7, 0, 1, 2, 3)]
        for many, orders in (
                (8, halves),
                (7, [(1, 0, 2, 3, 4, 5, 6), (1, 2, 3, 0, 4, 5, 6), (0, 1, 2, 3, 5, 4, 6), (0, 1, 2, 3, 5, 6, 4)]),
                (6, [(1, 0, 2, 3, 4, 5), (1, 2, 3, 4, 5, 0)]),
                (8, [(1, 0, 2, 3, 4, 5, 6, 7), (1, 2, 3, 4, 5, 6, 7, 0)]),
                (6, list(permutations(range(6))))):
            with self.assertRaises(TooMany) as taken:
                spanned(many, orders)
            self.assertIsInstance(taken.exception, CardError)

    def test_what_is_handed_in_stays(self):
        orders = [LAST, SWAP]
        told = spanned(3, orders)
        self.assertEqual(orders, [LAST, SWAP])
        told.append(None)
        orders.pop()
        self.assertEqual(spanned(3, orders), [STAY, LAST])
        none = []
        self.assertIsNot(spanned(3, none), none)
        self.assertEqual(none, [])


class Piles(unittest.TestCase):

    def test_cut(self):
        self.assertEqual(cut(3, (0, 1, 2)), (STAY, TURN, TURN_BACK))
        self.assertEqual(cut(4, (0, 1, 2)), ((0, 1, 2, 3), (1, 2, 0, 3), (2, 0, 1, 3)))
        self.assertEqual(cut(4, (2, 0)), ((0, 1, 2, 3), (2, 1, 0, 3)))
        self.assertEqual(cut(4, (3, 1, 0)), ((0, 1, 2, 3), (3, 0, 2, 1), (1, 3, 2, 0)))

    def test_cut_of_one_place(self):
        self.assertEqual(cut(1, (0,)), ((0,),))
        self.assertEqual(cut(3, (2,)), ((0, 1, 2),))

    def test_cut_of_all_eight(self):
        told = cut(8, (0, 1, 2, 3, 4, 5, 6, 7))
        self.assertEqual(told, tuple([tuple([(k + t) % 8 for k in range(8)]) for t in range(8)]))
        self.assertEqual([laid(tuple("abcdefgh"), order)[0] for order in told], list("abcdefgh"))

    def test_pile_cut(self):
        self.assertEqual(pile_cut(6, ((0, 1), (2, 3), (4, 5))),
                         ((0, 1, 2, 3, 4, 5), (2, 3, 4, 5, 0, 1), (4, 5, 0, 1, 2, 3)))
        self.assertEqual(pile_cut(5, ((0, 3), (4, 1))), ((0, 1, 2, 3, 4), (4, 3, 2, 1, 0)))
        self.assertEqual(pile_cut(7, ((5, 0), (1, 2), (4, 6))),
                         ((0, 1, 2, 3, 4, 5, 6), (2, 4, 6, 3, 5, 1, 0), (6, 5, 0, 3, 1, 4, 2)))

    def test_pile_cut_of_one_pile(self):
        self.assertEqual(pile_cut(4, ((3, 1, 2),)), ((0, 1, 2, 3),))

    def test_pile_cut_of_piles_of_one_place(self):
        self.assertEqual(pile_cut(4, ((3,), (1,), (0,))), cut(4, (3, 1, 0)))

    def test_pile_mix(self):
        self.assertEqual(pile_mix(4, ((0,), (1,), (2,))), (
            (0, 1, 2, 3), (0, 2, 1, 3), (1, 0, 2, 3), (1, 2, 0, 3), (2, 0, 1, 3), (2, 1, 0, 3)))
        self.assertEqual(pile_mix(3, ((2,), (0,), (1,))), (
            (0, 1, 2), (1, 0, 2), (2, 1, 0), (1, 2, 0), (2, 0, 1), (0, 2, 1)))
        self.assertEqual(pile_mix(5, ((0, 3), (4, 1))), ((0, 1, 2, 3, 4), (4, 3, 2, 1, 0)))

    def test_pile_mix_of_piles_of_several_places(self):
        self.assertEqual(pile_mix(7, ((5, 0), (1, 2), (4, 6))), (
            (0, 1, 2, 3, 4, 5, 6), (0, 4, 6, 3, 1, 5, 2), (2, 5, 0, 3, 4, 1, 6),
            (2, 4, 6, 3, 5, 1, 0), (6, 5, 0, 3, 1, 4, 2), (6, 1, 2, 3, 5, 4, 0)))

    def test_pile_mix_of_one_pile(self):
        self.assertEqual(pile_mix(3, ((1, 0),)), ((0, 1, 2),))

    def test_four_piles_are_mixed(self):
        told = pile_mix(8, ((0, 1), (2, 3), (4, 5), (6, 7)))
        self.assertEqual(len(told), 24)
        self.assertEqual(len(set(told)), 24)
        self.assertEqual((told[0], told[-1]), ((0, 1, 2, 3, 4, 5, 6, 7), (6, 7, 4, 5, 2, 3, 0, 1)))
        self.assertIs(is_shuffle(told, 8), True)
        self.assertEqual(pile_mix(4, ((0,), (1,), (2,), (3,))), tuple(permutations(range(4))))

    def test_five_piles_are_refused(self):
        for count in (5, 6, 8):
            with self.assertRaises(TooMany) as taken:
                pile_mix(8, tuple([(place,) for place in range(count)]))
            self.assertIsInstance(taken.exception, CardError)

    def test_each_is_a_shuffle(self):
        for told in (cut(5, (4, 2, 0)), pile_cut(7, ((5, 0), (1, 2), (4, 6))), pile_mix(7, ((5, 0), (1, 2)))):
            self.assertIs(is_shuffle(told, len(told[0])), True)
            self.assertIs(is_closed(told), True)

    def test_both_of_piles(self):
        pairs = pile_mix(4, ((0, 1), (2, 3)))
        self.assertEqual(both(pairs, cut(4, (0, 2))), ((0, 1, 2, 3), (0, 3, 2, 1), (2, 1, 0, 3), (2, 3, 0, 1)))
        self.assertEqual(then((2, 3, 0, 1), (2, 1, 0, 3)), (0, 3, 2, 1))


if __name__ == "__main__":
    unittest.main()
