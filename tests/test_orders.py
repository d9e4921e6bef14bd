import unittest
from itertools import permutations, product

from hushcards.orders import back, is_order, is_row, laid, order_to, rounds, then


def nested(depth):
    thing = 0
    for step in range(depth):
        thing = ((thing,), [thing], {"a": thing})[step % 3]
    return thing


def deep_tuple(depth):
    thing = (0,)
    for step in range(depth - 1):
        thing = (thing,)
    return thing


NEITHER = (
    None, True, False, 0, 1, 10 ** 400, "", "0", "01", [], [0], [0, 1], {}, {0: 0}, {"a": [0]},
    (None,), ("0",), ([0],), ({},), ((0,),), ((),), (0, None), (0, "1"), (0, (1,)), (0, [1]), (0, {1: 1}),
    ("0", 1), (None, 1), ([], 1), ({}, 1), (0, 10 ** 400), (0, -10 ** 400),
    (True,), (False,), (False, True), (0, True), (False, 1), (1, False),
    nested(58), nested(59), nested(60), deep_tuple(60), [deep_tuple(59)],
)


class IsRow(unittest.TestCase):

    def test_rows(self):
        for thing in ((0,), (9,), (1, 1), (0, 9, 5), (0, 1, 2, 3, 4, 5, 6, 7), (9,) * 8, (0,) * 8):
            self.assertIs(is_row(thing), True, thing)

    def test_each_count_of_cards(self):
        for count in range(12):
            self.assertIs(is_row((3,) * count), 1 <= count <= 8, count)

    def test_cards_beyond(self):
        for card in range(-3, 13):
            within = 0 <= card <= 9
            self.assertIs(is_row((card,)), within, card)
            self.assertIs(is_row((0, 1, card)), within, card)
            self.assertIs(is_row((card, 0, 1)), within, card)

    def test_of_anything(self):
        for thing in NEITHER:
            self.assertIs(is_row(thing), False)

    def test_truth_in_a_cards_stead(self):
        for place in range(3):
            for truth in (True, False):
                cards = [0, 1, 2]
                cards[place] = truth
                self.assertIs(is_row(tuple(cards)), False, cards)

    def test_list_of_cards_is_none_and_stays(self):
        cards = [0, 1, [2]]
        self.assertIs(is_row(cards), False)
        self.assertIs(is_row((0, cards)), False)
        self.assertEqual(cards, [0, 1, [2]])

    def test_asked_again(self):
        self.assertIs(is_row((1, 2)), True)
        self.assertIs(is_row((1, True)), False)
        self.assertIs(is_row((1, 2)), True)
        self.assertIs(is_row((1, True)), False)


class IsOrder(unittest.TestCase):

    def test_all_orders_of_few_cards(self):
        for many in range(1, 5):
            for thing in product(range(-1, many + 1), repeat=many):
                self.assertIs(is_order(thing, many), sorted(thing) == list(range(many)), thing)

    def test_eight_cards(self):
        self.assertIs(is_order((7, 6, 5, 4, 3, 2, 1, 0), 8), True)
        self.assertIs(is_order((0, 1, 2, 3, 4, 5, 6, 7), 8), True)
        self.assertIs(is_order((0, 1, 2, 3, 4, 5, 6, 6), 8), False)

    def test_nine_cards_are_not_refused(self):
        self.assertIs(is_order((8, 0, 1, 2, 3, 4, 5, 6, 7), 9), True)
        self.assertIs(is_order((8, 0, 1, 2, 3, 4, 5, 6, 8), 9), False)

    def test_place_told_twice_left_out_or_beyond(self):
        for thing in ((0, 0, 1), (0, 1, 1), (1, 2, 3), (0, 1, 3), (0, 2, 2), (-1, 0, 1), (0, 1, -1), (2, 1, -3)):
            self.assertIs(is_order(thing, 3), False, thing)

    def test_of_another_count(self):
        for many in range(1, 9):
            for asked in range(1, 9):
                self.assertIs(is_order(tuple(range(many)), asked), many == asked)

    def test_none_at_all(self):
        for many in range(1, 9):
            self.assertIs(is_order((), many), False)

    def test_of_anything(self):
        for thing in NEITHER:
            for many in (1, 2, 8):
                self.assertIs(is_order(thing, many), False)

    def test_truth_in_a_places_stead(self):
        for thing in ((False, True), (0, True), (False, 1), (1, False), (True, 0)):
            self.assertIs(is_order(thing, 2), False, thing)
        self.assertIs(is_order((2, True, 0), 3), False)
        self.assertIs(is_order((2, 1, False), 3), False)
        self.assertIs(is_order((2, 1, 0), 3), True)

    def test_list_of_places_is_none_and_stays(self):
        places = [1, 0, 2]
        self.assertIs(is_order(places, 3), False)
        self.assertEqual(places, [1, 0, 2])


class Laid(unittest.TestCase):

    def test_by_hand(self):
        self.assertEqual(laid((5, 6, 7), (1, 2, 0)), (6, 7, 5))
        self.assertEqual(laid((5, 6, 7), (2, 0, 1)), (7, 5, 6))
        self.assertEqual(laid((4, 4, 0, 9), (3, 0, 2, 1)), (9, 4, 0, 4))
        self.assertEqual(laid((8,), (0,)), (8,))
        self.assertIs(type(laid((5, 6), (1, 0))), tuple)

    def test_eight_cards(self):
        self.assertEqual(laid((9, 8, 7, 6, 5, 4, 3, 2), (7, 0, 1, 2, 3, 4, 5, 6)), (2, 9, 8, 7, 6, 5, 4, 3))

    def test_of_a_tuple_that_is_no_row(self):
        self.assertEqual(laid(("a", "b", "c"), (1, 2, 0)), ("b", "c", "a"))
        self.assertEqual(laid((None, True, (1, "x")), (2, 0, 1)), ((1, "x"), None, True))
        self.assertEqual(laid((12, -1), (1, 0)), (-1, 12))
        self.assertEqual(laid(tuple("abcdefghi"), (8, 0, 1, 2, 3, 4, 5, 6, 7)), tuple("iabcdefgh"))

    def test_truths_stay_truths(self):
        told = laid((True, 0, False), (2, 1, 0))
        self.assertEqual([type(part) for part in told], [bool, int, bool])

    def test_what_is_told_is_the_askers_own(self):
        things = ([1, [2]], {"a": [3]}, ([4],))
        told = laid(things, (2, 0, 1))
        self.assertEqual(told, (([4],), [1, [2]], {"a": [3]}))
        told[0][0].append(5)
        told[1][1].append(5)
        told[2]["a"].append(5)
        told[2]["b"] = 5
        self.assertEqual(things, ([1, [2]], {"a": [3]}, ([4],)))
        self.assertEqual(laid(things, (2, 0, 1)), (([4],), [1, [2]], {"a": [3]}))

    def test_nothing_hangs_on_what_was_handed_in(self):
        things = ([1], {"a": 2})
        told = laid(things, (1, 0))
        things[0].append(3)
        things[1]["a"] = 3
        self.assertEqual(told, ({"a": 2}, [1]))

    def test_no_two_lists_told_are_one(self):
        like = []
        told = laid((like, like), (0, 1))
        told[0].append(1)
        self.assertEqual(told, ([1], []))

    def test_sixty_deep(self):
        self.assertEqual(laid((nested(59), 1), (1, 0)), (1, nested(59)))


class ThenAndBack(unittest.TestCase):

    def test_then_by_hand(self):
        self.assertEqual(then((1, 2, 0), (0, 2, 1)), (1, 0, 2))
        self.assertEqual(then((0, 2, 1), (1, 2, 0)), (2, 1, 0))
        self.assertEqual(then((1, 0, 2, 3), (3, 0, 1, 2)), (3, 1, 0, 2))
        self.assertEqual(then((3, 0, 1, 2), (1, 0, 2, 3)), (0, 3, 1, 2))
        self.assertEqual(then((0,), (0,)), (0,))

    def test_then_lays_first_by_the_one(self):
        row = (5, 6, 7, 8)
        for one in permutations(range(4)):
            for other in permutations(range(4)):
                told = then(one, other)
                self.assertIs(is_order(told, 4), True)
                self.assertEqual(laid(row, told), laid(laid(row, one), other))

    def test_back_by_hand(self):
        self.assertEqual(back((1, 2, 0)), (2, 0, 1))
        self.assertEqual(back((2, 0, 1)), (1, 2, 0))
        self.assertEqual(back((3, 0, 2, 1)), (1, 3, 2, 0))
        self.assertEqual(back((1, 0, 2)), (1, 0, 2))
        self.assertEqual(back((0,)), (0,))
        self.assertEqual(back((7, 0, 1, 2, 3, 4, 5, 6)), (1, 2, 3, 4, 5, 6, 7, 0))

    def test_back_lays_back(self):
        row = (5, 6, 7, 8, 9)
        for order in permutations(range(5)):
            told = back(order)
            self.assertIs(is_order(told, 5), True)
            self.assertEqual(laid(laid(row, order), told), row)
            self.assertEqual(then(order, told), (0, 1, 2, 3, 4))


class Rounds(unittest.TestCase):

    def test_along_the_order(self):
        self.assertEqual(rounds((1, 2, 0)), [(0, 1, 2)])
        self.assertEqual(rounds((2, 0, 1)), [(0, 2, 1)])
        self.assertEqual(rounds((2, 3, 1, 0)), [(0, 2, 1, 3)])

    def test_places_that_stay(self):
        self.assertEqual(rounds((0,)), [(0,)])
        self.assertEqual(rounds((0, 1, 2)), [(0,), (1,), (2,)])
        self.assertEqual(rounds((3, 1, 0, 2)), [(0, 3, 2), (1,)])

    def test_by_their_least_places(self):
        self.assertEqual(rounds((0, 7, 5, 4, 6, 2, 3, 1)), [(0,), (1, 7), (2, 5), (3, 4, 6)])
        self.assertEqual(rounds((7, 6, 5, 4, 3, 2, 1, 0)), [(0, 7), (1, 6), (2, 5), (3, 4)])

    def test_all_orders_of_five_cards(self):
        for order in permutations(range(5)):
            told = rounds(order)
            self.assertEqual(sorted([place for places in told for place in places]), [0, 1, 2, 3, 4])
            self.assertEqual([min(places) for places in told], [places[0] for places in told])
            self.assertEqual(told, sorted(told))
            for places in told:
                self.assertEqual(laid(order, places), places[1:] + places[:1])

    def test_kinds(self):
        told = rounds((1, 0, 2))
        self.assertIs(type(told), list)
        self.assertEqual([type(places) for places in told], [tuple, tuple])

    def test_a_told_list_is_the_askers_own(self):
        told = rounds((1, 0, 2))
        told.append((3,))
        told[0] = None
        self.assertEqual(rounds((1, 0, 2)), [(0, 1), (2,)])


def first_order(row, other):
    for order in permutations(range(len(row))):
        if tuple([row[place] for place in order]) == other:
            return order
    return None


class OrderTo(unittest.TestCase):

    def test_by_hand(self):
        self.assertEqual(order_to((5, 6, 7), (6, 7, 5)), (1, 2, 0))
        self.assertEqual(order_to((6, 7, 5), (5, 6, 7)), (2, 0, 1))
        self.assertEqual(order_to((3,), (3,)), (0,))

    def test_cards_alike(self):
        self.assertEqual(order_to((1, 1, 1), (1, 1, 1)), (0, 1, 2))
        self.assertEqual(order_to((0, 1, 0, 1), (1, 0, 1, 0)), (1, 0, 3, 2))
        self.assertEqual(order_to((1, 0, 0, 1), (0, 1, 1, 0)), (1, 0, 3, 2))
        self.assertEqual(order_to((2, 2, 3, 3, 2, 3, 2, 2), (3, 2, 2, 2, 2, 2, 3, 3)), (2, 0, 1, 4, 6, 7, 3, 5))

    def test_none(self):
        self.assertIsNone(order_to((0,), (1,)))
        self.assertIsNone(order_to((0, 1), (1, 1)))
        self.assertIsNone(order_to((1, 1), (0, 1)))
        self.assertIsNone(order_to((0, 0, 1), (0, 1, 1)))
        self.assertIsNone(order_to((1, 2, 3, 4, 5, 6, 7, 8), (1, 2, 3, 4, 5, 6, 7, 9)))

    def test_all_rows_of_few_cards(self):
        for many in range(1, 5):
            for row in product(range(3), repeat=many):
                for other in product(range(3), repeat=many):
                    self.assertEqual(order_to(row, other), first_order(row, other), (row, other))

    def test_told_is_an_order(self):
        told = order_to((4, 4, 9), (9, 4, 4))
        self.assertIs(is_order(told, 3), True)
        self.assertEqual(order_to((4, 4, 9), (9, 4, 4)), told)


if __name__ == "__main__":
    unittest.main()
