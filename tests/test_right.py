import unittest
from fractions import Fraction
from math import gcd

from hushcards.errors import CardError, NoEnd, NoWay
from hushcards.right import chances, judged, shows
from hushcards.shuffles import cut

END = ("end", (0,))
AGAIN = ("again",)
ONE = (1, 1)
COIN = ((0, 1), (1, 0))
RIGHT = ("right",)

# Looks at a turned pair and tells its greater card.
GREATER = ("mix", COIN, ("look", (0,), (((0,), ("end", (1,))), ((1,), ("end", (0,))))))
# Tells its first card behind two looks; a 3 has no way, a 2 no end.
PICKY = ("look", (1,), (
    ((0,), END), ((1,), ("mix", COIN, ("look", (0,), (((0,), END), ((1,), END), ((4,), ("end", (0, 1))))))), ((2,), AGAIN)))


class RightCase(unittest.TestCase):

    def refuses(self, error, ask, *handed, seen=None):
        with self.assertRaises(CardError) as taken:
            ask(*handed)
        self.assertIs(type(taken.exception), error)
        if error is NoWay:
            self.assertEqual(taken.exception.seen, seen)


class Judged(RightCase):

    def check(self, plan, deals, due):
        told = judged(plan, deals)
        self.assertEqual(told, due)
        self.assertIs(type(told), tuple)

    def test_right(self):
        self.check(END, [((3, 4), (3,))], RIGHT)
        self.check(("end", (1, 0)), [((3, 4), (4, 3)), ((5, 5), (5, 5)), ((3, 4), (4, 3))], RIGHT)
        self.check(GREATER, [((0, 1), (1,)), ((1, 0), (1,))], RIGHT)

    def test_no_deals(self):
        self.check(END, [], RIGHT)
        self.check(AGAIN, [], RIGHT)

    def test_right_behind_agains(self):
        plan = ("mix", COIN, ("look", (0,), (((0,), AGAIN), ((1,), END))))
        self.check(plan, [((0, 1), (1,)), ((1, 0), (1,))], RIGHT)
        self.check(plan, [((0, 1), (1,)), ((1, 0), (0,))], ("wrong", 1, ((1,),), (1,)))

    def test_the_first_by_number(self):
        deals = [((3, 4), (3,)), ((4, 3), (4,)), ((5, 3), (3,)), ((6, 3), (3,))]
        self.check(END, deals, ("wrong", 2, (), (5,)))
        self.check(END, deals[:2], RIGHT)
        self.check(END, deals[2:], ("wrong", 0, (), (5,)))

    def test_then_by_the_trace(self):
        plan = ("mix", cut(3, (0, 1, 2)), ("look", (0,), (
            ((5,), ("end", (0,))), ((6,), ("end", (2,))), ((7,), ("end", (1,))))))
        self.check(plan, [((5, 6, 7), (5,))], RIGHT)
        self.check(plan, [((6, 5, 7), (5,))], ("wrong", 0, ((6,),), (7,)))
        plan = ("mix", COIN, ("look", (0,), (((4,), ("end", (1,))), ((5,), ("end", (1,))))))
        self.check(plan, [((4, 5), (5,))], ("wrong", 0, ((5,),), (4,)))
        self.check(plan, [((5, 4), (4,))], ("wrong", 0, ((4,),), (5,)))
        self.check(plan, [((4, 5), (9,))], ("wrong", 0, ((4,),), (5,)))

    def test_then_by_the_result(self):
        plan = ("mix", cut(3, (0, 1, 2)), ("end", (0,)))
        self.check(plan, [((7, 6, 5), (5,))], ("wrong", 0, (), (6,)))
        self.check(plan, [((7, 6, 5), (6,))], ("wrong", 0, (), (5,)))
        self.check(plan, [((7, 6, 5), (7,))], ("wrong", 0, (), (5,)))
        self.check(plan, [((7, 7, 7), (7,))], RIGHT)

    def test_however_unlikely(self):
        plan = ("mix", COIN[:1] * 23 + COIN[1:], END)
        self.check(plan, [((0, 1), (0,))], ("wrong", 0, (), (1,)))

    def test_a_due_of_another_size(self):
        self.check(END, [((3, 4), (3, 4))], ("wrong", 0, (), (3,)))
        self.check(("end", (0, 1)), [((3, 4), (3,))], ("wrong", 0, (), (3, 4)))
        self.check(END, [((3, 4), ())], ("wrong", 0, (), (3,)))

    def test_refused(self):
        self.refuses(NoWay, judged, PICKY, [((3, 0), (3,)), ((0, 3), (0,))], seen=(3,))
        self.refuses(NoEnd, judged, PICKY, [((3, 0), (3,)), ((0, 2), (0,)), ((0, 3), (0,))])
        self.refuses(NoWay, judged, PICKY, [((0, 3), (0,)), ((0, 2), (0,))], seen=(3,))

    def test_a_deal_behind_the_first_wrong_one_is_not_walked(self):
        for last in ((0, 3), (0, 2)):
            self.check(PICKY, [((3, 0), (3,)), ((4, 0), (3,)), (last, (0,))], ("wrong", 1, ((0,),), (4,)))

    def test_what_is_handed_in_stays(self):
        deals = [((3, 4), (3,)), ((4, 3), (3,))]
        self.check(END, deals, ("wrong", 1, (), (4,)))
        self.assertEqual(deals, [((3, 4), (3,)), ((4, 3), (3,))])
        deals.pop()
        self.check(END, deals, RIGHT)
        deals.append(((4, 3), (3,)))
        self.check(END, deals, ("wrong", 1, (), (4,)))


class Chances(RightCase):

    def check(self, plan, row, due):
        told = chances(plan, row)
        self.assertEqual(told, due)
        self.assertIs(type(told), list)
        results = [result for result, chance in told]
        self.assertEqual(results, sorted(set(results)))
        for entry in told:
            self.assertEqual((type(entry), type(entry[0]), type(entry[1])), (tuple, tuple, tuple))
            self.assertEqual(gcd(*entry[1]), 1)
        self.assertEqual(sum([Fraction(*chance) for result, chance in told]), 1)

    def test_one_trace(self):
        self.check(END, (3, 4), [((3,), ONE)])
        self.check(("mix", COIN, END), (3, 4), [((3,), (1, 2)), ((4,), (1, 2))])

    def test_over_all_traces(self):
        self.check(GREATER, (0, 1), [((1,), ONE)])
        plan = ("mix", cut(3, (0, 1, 2)), ("look", (0,), (((0,), ("end", (1,))), ((1,), ("end", (1,))))))
        self.check(plan, (0, 1, 1), [((0,), (1, 3)), ((1,), (2, 3))])
        plan = ("mix", cut(4, (0, 1, 2, 3)), ("look", (0,), (((5,), ("end", (1, 2))), ((6,), ("end", (1,))))))
        self.check(plan, (5, 5, 5, 6), [((5,), (1, 4)), ((5, 5), (1, 4)), ((5, 6), (1, 4)), ((6, 5), (1, 4))])

    def test_agains_and_all(self):
        plan = ("mix", cut(3, (0, 1, 2)), ("look", (0,), (
            ((0,), ("mix", ((0, 1, 2), (0, 2, 1)), ("end", (1,)))), ((1,), AGAIN), ((2,), ("end", (2,))))))
        self.check(plan, (0, 1, 2), [((1,), (3, 4)), ((2,), (1, 4))])

    def test_refused(self):
        self.refuses(NoWay, chances, PICKY, (0, 3), seen=(3,))
        self.refuses(NoEnd, chances, PICKY, (0, 2))
        self.refuses(NoEnd, chances, AGAIN, (0,))

    def test_what_is_told_is_the_askers_own(self):
        told = chances(END, (3, 4))
        told.append(None)
        self.check(END, (3, 4), [((3,), ONE)])


class Shows(RightCase):

    def check(self, plan, deals, paper, due):
        self.assertIs(shows(plan, deals, paper), due, paper)

    def test_right(self):
        self.check(END, [((3, 4), (3,)), ((4, 3), (4,))], RIGHT, True)
        self.check(END, [((3, 4), (3,)), ((4, 3), (3,))], RIGHT, False)
        self.check(GREATER, [((0, 1), (1,)), ((1, 0), (1,))], RIGHT, True)
        self.check(GREATER, [((0, 1), (1,)), ((1, 0), (0,))], RIGHT, False)
        self.check(END, [], RIGHT, True)

    def test_right_is_walked_up_to_the_first_wrong_deal(self):
        for last in ((0, 3), (0, 2)):
            self.check(PICKY, [((3, 0), (4,)), (last, (0,))], RIGHT, False)
        self.refuses(NoWay, shows, PICKY, [((3, 0), (3,)), ((0, 3), (0,)), ((4, 0), (3,))], RIGHT, seen=(3,))
        self.refuses(NoEnd, shows, PICKY, [((3, 0), (3,)), ((0, 2), (0,)), ((4, 0), (3,))], RIGHT)

    def test_wrong(self):
        deals = [((3, 4), (3,)), ((5, 4), (3,)), ((6, 4), (3,))]
        self.check(END, deals, ("wrong", 1, (), (5,)), True)
        self.check(END, deals, ("wrong", 2, (), (6,)), True)
        self.check(END, deals, ("wrong", 0, (), (3,)), False)
        self.check(END, deals, ("wrong", 0, (), (5,)), False)
        self.check(END, deals, ("wrong", 2, (), (5,)), False)
        self.check(END, deals, ("wrong", 2, (), (3,)), False)
        self.check(END, deals, ("wrong", 2, ((6,),), (6,)), False)

    def test_any_trace_and_result_that_may_be(self):
        plan = ("mix", cut(3, (0, 1, 2)), ("look", (0,), (
            ((5,), ("mix", ((0, 1, 2), (0, 2, 1)), ("end", (1,)))), ((6,), END), ((7,), ("end", (0, 1))))))
        deals = [((5, 6, 7), (6,))]
        for trace in ((), ((5,),), ((6,),), ((7,),), ((5,), (5,)), ((8,),), ((5, 6),), ((),)):
            for result in ((), (5,), (6,), (7,), (7, 5), (5, 7), (6, 6)):
                due = (trace, result) in ((((5,),), (7,)), (((7,),), (7, 5)))
                self.check(plan, deals, ("wrong", 0, trace, result), due)

    def test_the_result_comes_out_with_the_trace(self):
        plan = ("mix", COIN, ("look", (0,), (((0,), END), ((1,), END))))
        self.check(plan, [((0, 1), (9,))], ("wrong", 0, ((0,),), (0,)), True)
        self.check(plan, [((0, 1), (9,))], ("wrong", 0, ((1,),), (1,)), True)
        self.check(plan, [((0, 1), (9,))], ("wrong", 0, ((0,),), (1,)), False)
        self.check(plan, [((0, 1), (9,))], ("wrong", 0, ((1,),), (0,)), False)

    def test_whole_numbers_that_are_no_cards(self):
        for far in (-1, 10, 10 ** 400):
            self.check(END, [((3, 4), (5,))], ("wrong", 0, ((far,),), (3,)), False)
            self.check(END, [((3, 4), (5,))], ("wrong", 0, (), (far,)), False)

    def test_where_there_is_no_such_deal(self):
        deals = [((5, 4), (3,)), ((5, 4), (3,))]
        for number in (-1, -2, -3, 2, 3, 10 ** 400, -10 ** 400):
            self.check(END, deals, ("wrong", number, (), (5,)), False)
            self.check(AGAIN, deals, ("wrong", number, (), (5,)), False)
        for number in (-1, 0, 1):
            self.check(END, [], ("wrong", number, (), (5,)), False)
        self.check(END, deals, ("wrong", 1, (), (5,)), True)

    def test_the_deal_alone_is_walked(self):
        deals = [((0, 3), (0,)), ((4, 0), (3,)), ((0, 2), (0,))]
        self.check(PICKY, deals, ("wrong", 1, ((0,),), (4,)), True)
        self.check(PICKY, deals, ("wrong", 1, ((0,),), (3,)), False)

    def test_a_deal_that_refuses(self):
        deals = [((0, 3), (0,)), ((4, 0), (3,)), ((0, 2), (0,))]
        self.refuses(NoWay, shows, PICKY, deals, ("wrong", 0, ((0,),), (4,)), seen=(3,))
        self.refuses(NoEnd, shows, PICKY, deals, ("wrong", 2, ((0,),), (4,)))
        # It is walked whatever the paper tells of it, its own due too.
        self.refuses(NoWay, shows, PICKY, deals, ("wrong", 0, (), (0,)), seen=(3,))
        self.refuses(NoEnd, shows, PICKY, deals, ("wrong", 2, (), (0,)))

    def test_shows_what_is_judged(self):
        for plan, deals in (
                (GREATER, [((0, 1), (1,)), ((1, 0), (0,))]),
                (GREATER, [((0, 1), (1,)), ((1, 0), (1,))]),
                (PICKY, [((3, 0), (3,)), ((4, 1), (4,)), ((0, 2), (0,))])):
            self.check(plan, deals, judged(plan, deals), True)
        self.assertEqual(judged(PICKY, [((3, 0), (3,)), ((4, 1), (4,))]), ("wrong", 1, ((1,), (1,)), (1,)))

    def test_what_is_handed_in_stays(self):
        deals = [((3, 4), (3,))]
        self.check(END, deals, RIGHT, True)
        self.check(END, deals, ("wrong", 0, (), (3,)), False)
        self.assertEqual(deals, [((3, 4), (3,))])
        deals[0] = ((3, 4), (4,))
        self.check(END, deals, RIGHT, False)
        self.check(END, deals, ("wrong", 0, (), (3,)), True)


if __name__ == "__main__":
    unittest.main()
