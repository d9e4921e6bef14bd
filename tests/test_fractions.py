import unittest
from fractions import Fraction
from math import gcd

from hushcards.fractions import over, plus, ratio, times, total

GREAT = 10 ** 300 + 7


class FractionCase(unittest.TestCase):

    def check(self, told, due):
        self.assertEqual(told, due)
        self.assertIs(type(told), tuple)
        self.assertEqual([type(part) for part in told], [int, int])
        self.assertGreaterEqual(told[1], 1)
        self.assertEqual(gcd(told[0], told[1]), 1)


def as_tuple(value):
    return (value.numerator, value.denominator)


def small_fractions():
    return [(top, bottom) for top in range(-6, 7) for bottom in range(1, 7) if gcd(top, bottom) == 1]


class Ratio(FractionCase):

    def test_lowest_terms(self):
        self.check(ratio(6, 4), (3, 2))
        self.check(ratio(4, 6), (2, 3))
        self.check(ratio(5, 7), (5, 7))
        self.check(ratio(12, 4), (3, 1))
        self.check(ratio(1, 1), (1, 1))

    def test_either_sign(self):
        self.check(ratio(-6, 4), (-3, 2))
        self.check(ratio(6, -4), (-3, 2))
        self.check(ratio(-6, -4), (3, 2))
        self.check(ratio(5, -1), (-5, 1))
        self.check(ratio(-7, 7), (-1, 1))

    def test_nought_as_top(self):
        for bottom in (1, 2, 9, -1, -6, GREAT, -GREAT):
            self.check(ratio(0, bottom), (0, 1))

    def test_many_figures(self):
        self.check(ratio(GREAT * 6, GREAT * 4), (3, 2))
        self.check(ratio(-GREAT * 6, GREAT * 4), (-3, 2))
        self.check(ratio(GREAT, GREAT + 1), (GREAT, GREAT + 1))
        self.check(ratio(GREAT, -GREAT - 1), (-GREAT, GREAT + 1))
        self.check(ratio(10 ** 1200, 10 ** 1199), (10, 1))

    def test_all_small_ones(self):
        for top in range(-20, 21):
            for bottom in range(-20, 21):
                if bottom != 0:
                    self.check(ratio(top, bottom), as_tuple(Fraction(top, bottom)))

    def test_asked_again(self):
        self.assertEqual(ratio(10, -15), ratio(10, -15))


class Reckoned(FractionCase):

    def test_plus(self):
        self.check(plus((1, 2), (1, 3)), (5, 6))
        self.check(plus((1, 6), (1, 3)), (1, 2))
        self.check(plus((1, 2), (-1, 2)), (0, 1))
        self.check(plus((0, 1), (-3, 4)), (-3, 4))
        self.check(plus((1, GREAT), (1, GREAT)), as_tuple(Fraction(2, GREAT)))

    def test_times(self):
        self.check(times((2, 3), (3, 4)), (1, 2))
        self.check(times((-2, 3), (3, 2)), (-1, 1))
        self.check(times((-2, 3), (-1, 2)), (1, 3))
        self.check(times((0, 1), (-7, 3)), (0, 1))
        self.check(times((GREAT, 3), (3, GREAT)), (1, 1))

    def test_over(self):
        self.check(over((1, 2), (3, 4)), (2, 3))
        self.check(over((3, 4), (1, 2)), (3, 2))
        self.check(over((1, 2), (-3, 4)), (-2, 3))
        self.check(over((-1, 2), (-1, 2)), (1, 1))
        self.check(over((0, 1), (-5, 3)), (0, 1))
        self.check(over((GREAT, 1), (-GREAT, 2)), (-2, 1))

    def test_all_small_pairs(self):
        for one in small_fractions():
            for other in small_fractions():
                left = Fraction(*one)
                right = Fraction(*other)
                self.check(plus(one, other), as_tuple(left + right))
                self.check(times(one, other), as_tuple(left * right))
                if other[0] != 0:
                    self.check(over(one, other), as_tuple(left / right))


class Total(FractionCase):

    def test_of_none(self):
        self.check(total([]), (0, 1))

    def test_of_one(self):
        self.check(total([(-3, 4)]), (-3, 4))

    def test_of_several(self):
        self.check(total([(1, 2), (1, 3), (1, 6)]), (1, 1))
        self.check(total([(1, 4), (1, 4)]), (1, 2))
        self.check(total([(1, 2), (-1, 3), (-1, 6)]), (0, 1))
        self.check(total([(1, 24)] * 24), (1, 1))

    def test_of_many_figures(self):
        self.check(total([(GREAT, 2), (GREAT, 2), (-GREAT, 1), (1, 3)]), (1, 3))

    def test_list_stays_as_it_was(self):
        some = [(1, 2), (1, 3), (1, 3)]
        self.check(total(some), (7, 6))
        self.assertEqual(some, [(1, 2), (1, 3), (1, 3)])

    def test_nothing_is_kept(self):
        some = [(1, 2)]
        self.check(total(some), (1, 2))
        some.append((1, 4))
        self.check(total(some), (3, 4))
        self.check(total([]), (0, 1))
        self.check(total([(1, 2)]), (1, 2))


if __name__ == "__main__":
    unittest.main()
