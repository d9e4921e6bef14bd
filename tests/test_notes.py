import unittest
from itertools import permutations
from random import Random

from hushcards.errors import BadNote, CardError
from hushcards.formulas import plan_of
from hushcards.notes import plan_read, plan_text, row_read, row_text
from hushcards.plans import is_plan, plans_in
from plain import some_plan

END = ("end", (0,))
AGAIN = ("again",)
COIN = ((0, 1), (1, 0))

# A plan, its count of cards, and what is written of it.
WRITTEN = (
    (AGAIN, 1, "again"),
    (END, 1, "end 0"),
    (("end", (1, 0)), 2, "end 1 0"),
    (("end", (7, 3, 0)), 8, "end 7 3 0"),
    (("lay", (1, 0), END), 2, "lay 1 0 : end 0"),
    (("lay", (0,), AGAIN), 1, "lay 0 : again"),
    (("lay", (2, 0, 1), ("lay", (1, 0, 2), ("end", (2, 1)))), 3, "lay 2 0 1 : lay 1 0 2 : end 2 1"),
    (("mix", COIN, AGAIN), 2, "mix 0 1 / 1 0 : again"),
    (("mix", ((1, 0),), END), 2, "mix 1 0 : end 0"),
    (("mix", ((0,), (0,), (0,)), END), 1, "mix 0 / 0 / 0 : end 0"),
    (("look", (0,), (((5,), END),)), 1, "look 0 (5 : end 0)"),
    (("look", (1, 0), (((0, 9), END), ((3, 4), AGAIN))), 2, "look 1 0 (0 9 : end 0 ; 3 4 : again)"),
    (("look", (0,), (((0,), ("look", (1,), (((1,), AGAIN),))), ((1,), END))), 2,
     "look 0 (0 : look 1 (1 : again) ; 1 : end 0)"),
    (("look", (0,), (((0,), ("look", (1,), (((1,), ("look", (0,), (((0,), END),))),))),)), 2,
     "look 0 (0 : look 1 (1 : look 0 (0 : end 0)))"),
    (("mix", COIN, ("look", (0,), (((0,), ("lay", (1, 0), END)), ((1,), ("mix", COIN, ("end", (1, 0))))))), 2,
     "mix 0 1 / 1 0 : look 0 (0 : lay 1 0 : end 0 ; 1 : mix 0 1 / 1 0 : end 1 0)"),
)

FALLING = (10, 9, 8, 7, 6, 5, 4, 3, 2, 1, 0)
TURNED = (1, 2, 3, 4, 5, 6, 7, 8, 9, 10, 0)

# Likewise, of more cards than a row has: their places have two figures and more.
WRITTEN_OF_MORE = (
    (("end", (8,)), 9, "end 8"),
    (("end", (9,)), 10, "end 9"),
    (("end", (10,)), 11, "end 10"),
    (("end", (10,)), 12, "end 10"),
    (("end", (11, 0, 10)), 12, "end 11 0 10"),
    (("lay", FALLING, END), 11, "lay 10 9 8 7 6 5 4 3 2 1 0 : end 0"),
    (("mix", (FALLING, TURNED), ("end", (10, 1))), 11,
     "mix 10 9 8 7 6 5 4 3 2 1 0 / 1 2 3 4 5 6 7 8 9 10 0 : end 10 1"),
    (("look", (10, 1), (((0, 9), ("end", (10,))), ((1, 0), AGAIN))), 11, "look 10 1 (0 9 : end 10 ; 1 0 : again)"),
    (("look", (10,), (((0,), ("lay", FALLING, ("end", (10,)))), ((9,), ("mix", (TURNED,), ("end", (0, 10)))))), 11,
     "look 10 (0 : lay 10 9 8 7 6 5 4 3 2 1 0 : end 10 ; 9 : mix 1 2 3 4 5 6 7 8 9 10 0 : end 0 10)"),
    (("end", (100, 99)), 101, "end 100 99"),
    (("end", (999999, 100000)), 1000000, "end 999999 100000"),
    (("end", (1000000,)), 1000001, "end 1000000"),
)

NO_TEXTS = (None, True, False, 0, 1, -1, 10 ** 400, [], ["again"], ["end 0"], [0], (), ("again",), ("end", (0,)), (0, 1),
            ("0",), {}, {"again": 0}, {0: "0"}, [["0"]])

# What is no row, and, in a plan's stead, no plan either.
BAD = ("", " ", "  ", "\n", "\t", "~", "%", "x", "-", "+", "(", ")", ":", "/", ";", "()", "( )", "(0)", ":0", "0:", "0,1",
       "0, 1", "-1", "+1", "00", "01", "10", "1 01", "0 00", "0 10", "0x1", "1_0", "1.0", "0 1 ", " 0 1", "0  1", "0\t1",
       "0\n1", "0 1\n", "0\u00a01", "\u0663", "0 \u0661", "\uff11", "0 \u00b2", "\ud800", "1e0", "one", "True", "None",
       "999999", "0 999999", "0 / 1", "0 : 1", "0 ; 1", "0 ( 1", "0 1 (", "0 1 )", "((", "))", "0 1\x00", "\x00",
       "0\u20281", "0\x1f1", "0\x0b1", "9" * 5000)


class NoteCase(unittest.TestCase):

    def refuses(self, ask, *handed):
        with self.assertRaises(CardError, msg=handed) as taken:
            ask(*handed)
        self.assertIs(type(taken.exception), BadNote, handed)


class Rows(NoteCase):

    def test_written_and_read(self):
        for row, text in (((0,), "0"), ((9,), "9"), ((0, 1), "0 1"), ((5, 0, 5), "5 0 5"),
                          ((9, 8, 7, 6, 5, 4, 3, 2), "9 8 7 6 5 4 3 2"), ((0,) * 8, "0 0 0 0 0 0 0 0")):
            self.assertEqual(row_text(row), text)
            self.assertEqual(row_read(text), row)
            self.assertIs(type(row_read(text)), tuple)
            self.assertIs(type(row_text(row)), str)

    def test_no_row(self):
        for text in BAD + NO_TEXTS:
            self.refuses(row_read, text)

    def test_too_many_cards(self):
        self.refuses(row_read, "0 1 2 3 4 5 6 7 8")
        self.refuses(row_read, "0 " * 1999 + "0")

    def test_plans_are_no_rows(self):
        for plan, many, text in WRITTEN + WRITTEN_OF_MORE:
            self.refuses(row_read, text)


class Plans(NoteCase):

    def test_written_and_read(self):
        for plan, many, text in WRITTEN + WRITTEN_OF_MORE:
            self.assertEqual(plan_text(plan), text)
            self.assertIs(type(plan_text(plan)), str)
            told = plan_read(text, many)
            self.assertEqual(told, plan)
            self.assertIs(type(told), tuple)

    def test_no_plan(self):
        for many in (1, 2, 8):
            for text in BAD + NO_TEXTS + ("0", "1", "0 1"):
                self.refuses(plan_read, text, many)

    def test_bad_parts(self):
        for text in BAD:
            for around in ("end {}", "lay {} : end 0", "lay 0 : {}", "mix {} : end 0", "mix 0 / {} : end 0", "mix 0 : {}",
                           "look {} (0 : end 0)", "look 0 ({} : end 0)", "look 0 (0 : {})", "look 0 (0 : end 0 ; {} : end 0)",
                           "look 0 (0 : end 0 ; 1 : {})", "look 0 {}", "look 0 ({})"):
                self.refuses(plan_read, around.replace("{}", text), 1)

    def test_signs_more_or_fewer(self):
        for plan, many, text in WRITTEN + WRITTEN_OF_MORE:
            for place in range(len(text) + 1):
                for sign in " 01:/;()a~\n%":
                    self.check_other(text[:place] + sign + text[place:], many, text)
                self.check_other(text[:place], many, text)
                self.check_other(text[place:], many, text)
                self.check_other(text[:place] + text[place + 1:], many, text)
                self.check_other(text[:place] + text[place:].replace(" ", "  ", 1), many, text)

    def check_other(self, other, many, text):
        """Read is just what is written: whatever isn't refused is written so again."""
        if other == text:
            return
        try:
            told = plan_read(other, many)
        except BadNote:
            return
        self.assertIs(is_plan(told, many), True)
        self.assertEqual(plan_text(told), other)

    def test_blanks(self):
        for plan, many, text in WRITTEN + WRITTEN_OF_MORE:
            self.refuses(plan_read, " " + text, many)
            self.refuses(plan_read, text + " ", many)
            self.refuses(plan_read, text + "\n", many)
            for place, sign in enumerate(text):
                if sign == " ":
                    for other in ("", "  ", "\t", "\n", "\u00a0", "_"):
                        self.refuses(plan_read, text[:place] + other + text[place + 1:], many)
                elif sign in "()":
                    self.refuses(plan_read, text[:place] + " " + sign + text[place + 1:], many)
                    self.refuses(plan_read, text[:place] + sign + " " + text[place + 1:] + " ", many)
        for text in ("look 0 ( 0 : end 0)", "look 0 (0 : end 0 )", "look 0(0 : end 0)", "look 0 (0: end 0)",
                     "look 0 (0 :end 0)", "look 0 (0 : end 0; 1 : end 0)", "look 0 (0 : end 0 ;1 : end 0)",
                     "mix 0/0 : end 0", "mix 0/ 0 : end 0", "mix 0 /0 : end 0", "lay 0: end 0", "lay 0 :end 0"):
            self.refuses(plan_read, text, 1)

    def test_words_out_twice_or_exchanged(self):
        for plan, many, text in WRITTEN + WRITTEN_OF_MORE:
            words = text.split(" ")
            for place in range(len(words)):
                self.check_other(" ".join(words[:place] + words[place + 1:]), many, text)
                self.check_other(" ".join(words[:place] + words[place:place + 1] + words[place:]), many, text)
                for other in range(place):
                    turned = list(words)
                    turned[place] = words[other]
                    turned[other] = words[place]
                    self.check_other(" ".join(turned), many, text)

    def test_words_wrong(self):
        for text in ("End 0", "END 0", "ends 0", "end", "end ", "end0", "end 0 end 0", "end 0 again", "again again", "again 0",
                     "Again", "again ;", "end 0 ;", "end 0)", "(end 0)", "lay 0", "lay 0 :", "lay 0 : ", "lay : end 0",
                     "lay 0 ; end 0", "lay 0 / end 0", "lay 0 : : end 0", "lay end 0", "mix : end 0", "mix 0 / : end 0",
                     "mix / 0 : end 0", "mix 0 / / 0 : end 0", "mix 0 ; 0 : end 0", "mix 0 0 : end 0", "look 0", "look 0 ()",
                     "look 0 (0)", "look 0 (0 :)", "look 0 (: end 0)", "look 0 (0 : end 0", "look 0 0 : end 0)",
                     "look 0 (0 : end 0))", "look 0 ((0 : end 0))", "look 0 (0 : end 0 ;)", "look 0 (0 : end 0 ; )",
                     "look 0 (; 0 : end 0)", "look 0 (0 : end 0 / 1 : end 0)", "look 0 (0 : end 0 1 : end 0)",
                     "look 0 (0 : end 0) end 0", "look (0 : end 0)", "look 0 (0 : (end 0))", "look 0 : end 0",
                     "look 0 (0 : end 0) (1 : end 0)", "stay 0", "lay 0 : 0", "look 0 (0 : 0)"):
            self.refuses(plan_read, text, 1)

    def test_figures(self):
        for number in ("00", "01", "-0", "+0", "0.", "10", "000000", "100000", "999999", "0" * 4000, "\u0660"):
            for around in ("end {}", "lay {} : end 0", "mix {} : end 0", "look {} (0 : end 0)", "look 0 ({} : end 0)"):
                self.refuses(plan_read, around.replace("{}", number), 1)

    def test_figures_of_more_cards(self):
        for number in ("12", "010", "0010", "00", "011", "-1", "+10", "1_0", "10.", "1O", "10a", "100000", "999999",
                       "0" * 4000, "1" + "0" * 3900, "9" * 5000, "\u0661\u0660", "1\u0660", "\uff11\uff10", "1\u00b2"):
            for around in ("end {}", "end 0 {}", "end 11 {}", "look {} (0 : end 0)", "look 0 ({} : end 0)",
                           "look 0 (0 : end {})", "lay {} 0 1 2 3 4 5 6 7 8 9 11 : end 0",
                           "mix 0 1 2 3 4 5 6 7 8 9 10 11 / 0 1 2 3 4 5 6 7 8 9 {} 11 : end 0"):
                self.refuses(plan_read, around.replace("{}", number), 12)

    def test_cards_have_one_figure(self):
        for text in ("look 0 (10 : end 0)", "look 10 (0 : end 0 ; 11 : end 0)", "look 0 1 (0 10 : end 0)"):
            self.refuses(plan_read, text, 12)

    def test_a_place_just_beyond(self):
        for many in (9, 10, 11, 12, 100, 101, 999999):
            self.assertEqual(plan_read(f"end {many - 1}", many), ("end", (many - 1,)))
            self.refuses(plan_read, f"end {many}", many)

    def test_another_count_of_cards(self):
        for plan, many, text in WRITTEN + WRITTEN_OF_MORE:
            for other in range(1, 14):
                if is_plan(plan, other):
                    self.assertEqual(plan_read(text, other), plan)
                else:
                    self.refuses(plan_read, text, other)
        self.refuses(plan_read, "end 2", 2)
        self.refuses(plan_read, "lay 0 1 : end 0", 3)
        self.refuses(plan_read, "mix 0 1 : end 0", 1)
        self.refuses(plan_read, "look 8 (0 : end 0)", 8)

    def test_texts_that_write_no_plan(self):
        for text in ("end 0 0", "lay 0 0 : end 0", "lay 1 2 : end 0", "mix 0 1 / 0 0 : end 0", "look 0 0 (0 0 : end 0)",
                     "look 0 (0 0 : end 0)", "look 0 1 (0 : end 0)", "look 0 (1 : end 0 ; 0 : end 0)",
                     "look 0 (0 : end 0 ; 0 : end 0)", "look 0 1 (0 1 : end 0 ; 0 0 : end 0)"):
            self.refuses(plan_read, text, 2)

    def test_orders_of_a_mix(self):
        self.assertEqual(plan_read("mix " + " / ".join(["1 0"] * 24) + " : end 0", 2), ("mix", ((1, 0),) * 24, END))
        self.refuses(plan_read, "mix " + " / ".join(["1 0"] * 25) + " : end 0", 2)

    def test_twelve_within_one_another(self):
        self.assertIs(is_plan(plan_read("lay 0 : " * 11 + "end 0", 1), 1), True)
        self.refuses(plan_read, "lay 0 : " * 12 + "end 0", 1)
        self.assertIs(is_plan(plan_read("look 0 (0 : " * 11 + "again" + ")" * 11, 1), 1), True)
        self.refuses(plan_read, "look 0 (0 : " * 12 + "again" + ")" * 12, 1)
        self.assertIs(is_plan(plan_read("mix 0 : " * 11 + "again", 1), 1), True)
        self.refuses(plan_read, "mix 0 : " * 12 + "again", 1)

    def test_far_too_deep(self):
        self.refuses(plan_read, "lay 0 : " * 499 + "end 0", 1)
        self.refuses(plan_read, "look 0 (0 : " * 320 + "again" + ")" * 320, 1)
        self.refuses(plan_read, "look 0 (0 : " * 333, 1)
        self.refuses(plan_read, "(" * 4000, 1)
        self.refuses(plan_read, "look 0 (" * 499, 1)

    def test_sixty_plans(self):
        ways = [f"{number // 10} {number % 10} : end 0" for number in range(60)]
        text = "look 0 1 (" + " ; ".join(ways[:59]) + ")"
        self.assertEqual(plans_in(plan_read(text, 2)), 60)
        self.refuses(plan_read, "look 0 1 (" + " ; ".join(ways) + ")", 2)
        self.refuses(plan_read, "lay 0 1 : " + text, 2)

    def test_long_texts(self):
        shuffle = tuple([order for order in permutations(range(8)) if order[:4] == (7, 6, 5, 4)])
        plan = ("end", (3,))
        for step in range(9):
            plan = ("mix", shuffle, plan)
        self.assertLess(len(plan_text(plan)), 4000)
        self.assertEqual(plan_read(plan_text(plan), 8), plan)

    def test_at_large(self):
        source = Random(90)
        for step in range(500):
            many = source.randint(2, 14)
            plan = some_plan(source, many, 4)
            if not is_plan(plan, many):
                continue
            self.assertEqual(plan_read(plan_text(plan), many), plan)
        plan = plan_of(("any", ("one", ("bit", 0), ("bit", 2)), ("not", ("bit", 1))))
        self.assertEqual(plan_read(plan_text(plan), 8), plan)

    def test_asked_again(self):
        for step in range(2):
            self.assertEqual(plan_read("lay 1 0 : end 0", 2), ("lay", (1, 0), END))
            self.refuses(plan_read, "lay 1 0 : end 2", 2)
            self.assertEqual(row_read("1 0"), (1, 0))

    def test_lists_stay(self):
        handed = ["again"]
        self.refuses(plan_read, handed, 1)
        self.refuses(row_read, handed)
        self.assertEqual(handed, ["again"])


if __name__ == "__main__":
    unittest.main()
