import unittest

from hushcards.desk import Desk
from hushcards.errors import BadNote, CardError, NoEnd, NoName, NoPlan, NoWay

HUSHED = "mix 0 1 / 1 0 : look 0 (0 : end 1 ; 1 : end 0)"
PATIENT = "mix 0 1 / 0 1 / 1 0 : look 0 (0 : end 1 0 ; 1 : again)"
# A 2 ahead has no end, a 3 no way.
PICKY = "look 0 (0 : end 0 ; 1 : look 1 (0 : end 0 ; 1 : end 0) ; 2 : again)"
NO_TEXTS = (None, True, False, 0, 1, -1, 10 ** 400, [], ["plans"], (), ("plans",), {}, {"plans": 0}, [["rows"]])


class DeskCase(unittest.TestCase):

    def setUp(self):
        self.desk = Desk()
        self.kept = (
            "plan hushed 2 " + HUSHED, "plan patient 2 " + PATIENT, "plan picky 2 " + PICKY, "plan end 2 end 0",
            "plan three 3 end 2 0", "plan never 2 again", "row up 0 1", "row down 1 0", "row two 2 0", "row three 3 0",
            "row long 5 6 7", "row like 1 1", "row end 0 0")

    def keep(self):
        for line in self.kept:
            self.answers(line, "ok")

    def answers(self, line, due):
        told = self.desk.say(line)
        self.assertEqual(told, due, line)
        self.assertIs(type(told), str)

    def refuses(self, line, error, seen=None):
        ahead = self.all_kept()
        with self.assertRaises(CardError, msg=line) as taken:
            self.desk.say(line)
        self.assertIs(type(taken.exception), error, line)
        if error is NoWay:
            self.assertEqual(taken.exception.seen, seen)
        self.assertEqual(self.all_kept(), ahead, line)

    def all_kept(self):
        plans = self.desk.say("plans")
        rows = self.desk.say("rows")
        return (plans, rows, [self.desk.say("show " + name) for name in plans.split()],
                [self.desk.say("cards " + name) for name in rows.split()])


class Kept(DeskCase):

    def test_plans(self):
        self.answers("plan a 2 end 1 0", "ok")
        self.answers("show a", "end 1 0")
        self.answers("plan abcdefgh 2 " + PICKY, "ok")
        self.answers("show abcdefgh", PICKY)
        self.answers("show a", "end 1 0")

    def test_each_count_of_cards(self):
        for count in range(1, 9):
            text = "lay " + " ".join([str(place) for place in reversed(range(count))]) + " : end 0"
            self.answers(f"plan a {count} {text}", "ok")
            self.answers("show a", text)
            self.answers("row a " + " ".join(["9"] * count), "ok")
            self.answers("results a a", "9 = 1/1")

    def test_rows(self):
        self.answers("row a 5", "ok")
        self.answers("row b 0 1 2 3 4 5 6 7", "ok")
        self.answers("cards a", "5")
        self.answers("cards b", "0 1 2 3 4 5 6 7")

    def test_names(self):
        self.answers("plans", "")
        self.answers("rows", "")
        self.answers("plan b 1 end 0", "ok")
        self.answers("plans", "b")
        self.answers("rows", "")
        for name in ("ba", "a", "zzzzzzzz", "aa", "b"):
            self.answers("plan " + name + " 1 again", "ok")
            self.answers("row " + name + " 1", "ok")
        self.answers("plans", "a aa b ba zzzzzzzz")
        self.answers("rows", "a aa b ba zzzzzzzz")

    def test_names_like_words_of_a_line(self):
        for name in ("plan", "row", "show", "cards", "plans", "rows", "results", "traces", "steps", "quiet", "ok", "end",
                     "again", "lay", "mix", "look"):
            self.answers(f"plan {name} 2 end 0", "ok")
            self.answers(f"row {name} 3 4", "ok")
            self.answers(f"show {name}", "end 0")
            self.answers(f"cards {name}", "3 4")
            self.answers(f"results {name} {name}", "3 = 1/1")
            self.answers(f"quiet {name} {name}", "quiet")

    def test_one_name_for_both(self):
        self.answers("plan a 2 end 0", "ok")
        self.answers("row a 3 4", "ok")
        self.answers("show a", "end 0")
        self.answers("cards a", "3 4")
        self.answers("plans", "a")
        self.answers("rows", "a")
        self.answers("row a 5 6", "ok")
        self.answers("show a", "end 0")
        self.answers("plan a 2 end 1", "ok")
        self.answers("cards a", "5 6")

    def test_kept_anew(self):
        self.answers("plan a 2 end 0", "ok")
        self.answers("plan a 3 end 2", "ok")
        self.answers("row a 3 4", "ok")
        self.refuses("results a a", NoPlan)
        self.answers("row a 3 4 5", "ok")
        self.answers("results a a", "5 = 1/1")
        self.answers("show a", "end 2")
        self.answers("plans", "a")
        self.answers("rows", "a")

    def test_a_plan_is_of_its_count_of_cards(self):
        self.answers("row a 3 4", "ok")
        self.answers("plan a 3 end 0", "ok")
        self.refuses("results a a", NoPlan)
        self.answers("plan a 2 end 0", "ok")
        self.answers("results a a", "3 = 1/1")

    def test_two_desks(self):
        other = Desk()
        self.answers("plan a 2 end 0", "ok")
        self.answers("row a 3 4", "ok")
        self.assertEqual(other.say("plans"), "")
        self.assertEqual(other.say("rows"), "")
        self.assertRaises(NoName, other.say, "show a")
        self.assertEqual(other.say("row a 5 6"), "ok")
        self.assertEqual(other.say("plan a 2 end 1"), "ok")
        self.answers("results a a", "3 = 1/1")
        self.assertEqual(other.say("results a a"), "6 = 1/1")
        self.assertEqual(Desk().say("plans"), "")


class Asked(DeskCase):

    def setUp(self):
        DeskCase.setUp(self)
        self.keep()

    def test_results(self):
        self.answers("results end up", "0 = 1/1")
        self.answers("results three long", "7 5 = 1/1")
        self.answers("results hushed up", "1 = 1/1")
        self.answers("results patient up", "1 0 = 1/1")
        self.answers("plan a 3 mix 0 1 2 / 1 2 0 / 0 1 2 / 2 0 1 / 0 1 2 / 1 0 2 : end 0 2", "ok")
        self.answers("results a long", "5 7 = 1/2, 6 5 = 1/6, 6 7 = 1/6, 7 6 = 1/6")

    def test_results_over_all_traces(self):
        self.answers("plan a 2 mix 0 1 / 0 1 / 1 0 : look 0 (0 : end 0 ; 1 : mix 0 1 / 1 0 : end 0)", "ok")
        self.answers("results a up", "0 = 5/6, 1 = 1/6")

    def test_traces(self):
        self.answers("traces end up", "- = 1/1")
        self.answers("traces three long", "- = 1/1")
        self.answers("traces hushed up", "0 = 1/2, 1 = 1/2")
        self.answers("traces patient down", "0 = 1/1")
        self.answers("traces picky like", "1 | 1 = 1/1")
        self.answers("plan a 3 mix 0 1 2 / 1 2 0 / 2 0 1 : look 0 2 (5 7 : end 0 ; 6 5 : look 1 (7 : end 0) ; 7 6 : "
                     "look 1 0 (5 7 : look 2 (6 : end 0)))", "ok")
        self.answers("traces a long", "5 7 = 1/3, 6 5 | 7 = 1/3, 7 6 | 5 7 | 6 = 1/3")

    def test_steps(self):
        self.answers("steps end up", "0/1 0/1 0/1")
        self.answers("steps hushed up", "0/1 1/1 1/1")
        self.answers("steps patient up", "0/1 3/2 3/2")
        self.answers("steps patient down", "0/1 3/1 3/1")
        self.answers("plan a 2 lay 1 0 : lay 1 0 : mix 0 1 : look 1 (1 : end 0)", "ok")
        self.answers("steps a up", "2/1 1/1 1/1")

    def test_quiet(self):
        self.answers("quiet hushed up", "quiet")
        self.answers("quiet hushed up down", "quiet")
        self.answers("quiet hushed up down up down up down up down", "quiet")
        self.answers("quiet end up down like two three end up down", "quiet")
        self.answers("quiet three long long", "quiet")

    def test_tells(self):
        self.answers("quiet hushed up down like", "tells 0 2 0")
        self.answers("quiet picky up down", "tells 0 1 0")
        self.answers("quiet picky like down", "tells 0 1 1 | 0")
        self.answers("quiet picky down down down down down down down like", "tells 0 7 1 | 0")
        self.answers("quiet picky up end like", "tells 0 2 0")
        self.answers("plan a 2 look 0 1 (0 1 : end 0 ; 1 0 : end 0)", "ok")
        self.answers("quiet a up down", "tells 0 1 0 1")

    def test_tells_by_agains(self):
        self.answers("quiet patient up down", "tells 0 1 again")
        self.answers("quiet patient down down up", "tells 0 2 again")

    def test_asked_again(self):
        for line in ("plans", "rows", "show hushed", "cards long", "results hushed up", "traces picky like",
                     "steps patient up", "quiet hushed up down"):
            self.assertEqual(self.desk.say(line), self.desk.say(line))


class Refused(DeskCase):

    def setUp(self):
        DeskCase.setUp(self)
        self.keep()

    def test_no_texts(self):
        for line in NO_TEXTS:
            self.refuses(line, BadNote)

    def test_no_line(self):
        for line in ("", " ", "  ", "\n", "x", "ok", "plan", "row", "show", "cards", "results", "traces", "steps", "quiet",
                     "Plans", "PLANS", "plans plans", "plans up", "rows up", "plan up", "keep up", "tells up down", "end 0",
                     "0", "0 1", "%", "~", "plans\n", "plans\t", "\u0440lans"):
            self.refuses(line, BadNote)

    def test_words_lacking_or_more(self):
        for line in ("plan a", "plan a 2", "plan a end 0", "plan 2 end 0", "plan a 2 end", "row a", "row 0 1", "show",
                     "show hushed hushed", "show hushed up", "cards up down", "cards", "results hushed", "results hushed up up",
                     "traces hushed", "traces hushed up down", "steps hushed", "steps hushed up down", "quiet hushed", "quiet"):
            self.refuses(line, BadNote)

    def test_blanks(self):
        for line in ("plan a 2 end 0", "row a 0 1", "show hushed", "cards up", "plans", "rows", "results hushed up",
                     "traces hushed up", "steps hushed up", "quiet hushed up down"):
            for other in (" " + line, line + " ", line + "\n", "\n" + line, "\t" + line):
                self.refuses(other, BadNote)
            for place, sign in enumerate(line):
                if sign == " ":
                    for blank in ("  ", "\t", "\n", "\u00a0"):
                        self.refuses(line[:place] + blank + line[place + 1:], BadNote)

    def test_names_that_are_none(self):
        for name in ("", "A", "aB", "Up", "a1", "1", "a-b", "a_b", "abcdefghi", "abcdefghijklmnop", "\u00e4", "\u00df", "a.",
                     "\u03b1", "\u0430", "*", "-", "~", "a\n", "\uff41", "\u00aa"):
            for line in (f"plan {name} 2 end 0", f"row {name} 0 1", f"show {name}", f"cards {name}", f"results {name} up",
                         f"results hushed {name}", f"traces {name} up", f"traces hushed {name}", f"steps {name} up",
                         f"steps hushed {name}", f"quiet {name} up", f"quiet hushed {name}", f"quiet hushed up {name}"):
                self.refuses(line, BadNote)

    def test_counts_that_are_none(self):
        for count in ("0", "9", "01", "02", "00", "10", "-2", "+2", "2.", "two", "x", "", "\u0662", "\u00b2", "8 8", "999999",
                      "2,", "2:", "12"):
            self.refuses(f"plan a {count} end 0", BadNote)

    def test_texts_that_write_none(self):
        for text in ("", "end", "end 2", "end 0 0", "end  0", "end 0 ", "lay 0 : end 0", "lay 0 1 2 : end 0", "lay 1 0 : ",
                     "mix 0 1 / 0 : end 0", "look 0 (0 : end 0", "look 0 (1 : end 0 ; 0 : end 0)", "Again", "0 1", "x",
                     "lay 0 1 : " * 12 + "end 0", "end 00", "end 01", "end 0\n"):
            self.refuses("plan a 2 " + text, BadNote)
            self.refuses("plan hushed 2 " + text, BadNote)
        for text in ("", "x", "0  1", "0 1 ", " 0 1", "01", "10", "0 1 2 3 4 5 6 7 8", "-1", "0,1", "end 0", "again", "0\n"):
            self.refuses("row a " + text, BadNote)
            self.refuses("row up " + text, BadNote)

    def test_nine_rows(self):
        self.refuses("quiet hushed" + " up" * 9, BadNote)
        self.answers("quiet hushed" + " up" * 8, "quiet")

    def test_no_name(self):
        for line in ("show up", "show none", "cards hushed", "cards none", "results up hushed", "results none up",
                     "results hushed none", "traces none up", "traces hushed none", "steps none up", "steps hushed none",
                     "quiet none up", "quiet hushed none", "quiet hushed up none", "quiet hushed up up up up up up up none",
                     "results hushed hushed", "results up up", "quiet hushed up hushed"):
            self.refuses(line, NoName)

    def test_another_count_of_cards(self):
        for line in ("results hushed long", "traces hushed long", "steps hushed long", "quiet hushed long",
                     "results three up", "traces three up", "steps three up", "quiet three up", "quiet hushed up long",
                     "quiet hushed long up", "quiet hushed up up up up up up up long", "quiet three up down"):
            self.refuses(line, NoPlan)

    def test_no_way_and_no_end(self):
        for word in ("results", "traces", "steps", "quiet"):
            self.refuses(word + " picky three", NoWay, (3,))
            self.refuses(word + " picky two", NoEnd)
            self.refuses(word + " never up", NoEnd)
        self.refuses("quiet picky up down two three", NoEnd)
        self.refuses("quiet picky up down three two", NoWay, (3,))
        self.refuses("quiet picky like end three", NoWay, (3,))

    def test_bad_note_ahead_of_no_name(self):
        for line in ("results none", "results none none none", "show none none", "quiet none" + " none" * 9, "cards none ",
                     "results none Up", "quiet none", "traces none up up", "results hushed long up", "steps never up two"):
            self.refuses(line, BadNote)

    def test_no_name_ahead_of_no_plan(self):
        for line in ("results none long", "quiet hushed long none", "quiet hushed none long", "quiet none long up",
                     "quiet three up none"):
            self.refuses(line, NoName)

    def test_no_name_ahead_of_what_is_asked(self):
        for line in ("quiet picky three none", "quiet picky two none", "quiet never up none"):
            self.refuses(line, NoName)

    def test_no_plan_ahead_of_what_is_asked(self):
        for line in ("quiet picky three long", "quiet picky two long", "quiet never up long", "quiet picky long three",
                     "results never long"):
            self.refuses(line, NoPlan)

    def test_lists_stay(self):
        line = ["plans"]
        self.refuses(line, BadNote)
        self.assertEqual(line, ["plans"])

    def test_a_long_line(self):
        ways = " ; ".join([f"{number // 10} {number % 10} : end 0 1 2 3 4 5 6 7" for number in range(59)])
        text = "look 0 1 (" + ways + ")"
        self.answers("plan a 8 " + text, "ok")
        self.answers("show a", text)
        self.refuses("plan a 8 " + text + ")", BadNote)
        self.refuses("quiet hushed" + " up" * 1300, BadNote)


if __name__ == "__main__":
    unittest.main()
