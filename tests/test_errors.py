import unittest

from hushcards import errors

UNDER_CARD_ERROR = ("NoPlan", "NoWay", "NoEnd", "NoFormula", "TooMany", "NoName", "BadNote")
MADE_WITH_TEXT = ("CardError", "NoPlan", "NoEnd", "NoFormula", "TooMany", "NoName", "BadNote")


class ErrorTree(unittest.TestCase):

    def test_card_error_stands_straight_under_value_error(self):
        self.assertEqual(errors.CardError.__bases__, (ValueError,))

    def test_each_other_one_stands_straight_under_card_error(self):
        for name in UNDER_CARD_ERROR:
            self.assertEqual(getattr(errors, name).__bases__, (errors.CardError,), name)

    def test_none_stands_under_another_of_them(self):
        for name in UNDER_CARD_ERROR:
            for other in UNDER_CARD_ERROR:
                under = issubclass(getattr(errors, name), getattr(errors, other))
                self.assertEqual(under, name == other, (name, other))

    def test_each_bears_its_own_name(self):
        for name in UNDER_CARD_ERROR + ("CardError",):
            self.assertEqual(getattr(errors, name).__name__, name)


class ErrorsMade(unittest.TestCase):

    def test_made_with_a_text(self):
        for name in MADE_WITH_TEXT:
            with self.assertRaises(errors.CardError) as taken:
                raise getattr(errors, name)("some words")
            self.assertEqual(str(taken.exception), "some words")

    def test_no_way_has_what_is_seen(self):
        for seen in ((3,), (0, 1), (9, 9, 0)):
            with self.assertRaises(errors.CardError) as taken:
                raise errors.NoWay(seen)
            self.assertEqual(taken.exception.seen, seen)
            self.assertIs(type(taken.exception.seen), tuple)

    def test_what_is_seen_is_each_objects_own(self):
        one = errors.NoWay((1,))
        other = errors.NoWay((2,))
        self.assertEqual((one.seen, other.seen), ((1,), (2,)))

    def test_taken_as_value_error(self):
        with self.assertRaises(ValueError):
            raise errors.NoWay((1,))


if __name__ == "__main__":
    unittest.main()
