"""A desk: plans and rows kept by names, and what is asked of them, line by line."""

from hushcards.errors import BadNote, NoName, NoPlan
from hushcards.notes import plan_read, plan_text, row_read, row_text
from hushcards.orders import MOST_CARDS
from hushcards.plans import mean_steps, walked
from hushcards.quiet import quiet
from hushcards.right import chances

LETTERS = "abcdefghijklmnopqrstuvwxyz"
LONGEST_NAME = 8
# How many names may follow these words, the fewest and the most.
NAMES = {"show": (1, 1), "cards": (1, 1), "results": (2, 2), "traces": (2, 2), "steps": (2, 2), "quiet": (2, 9)}


def is_name(word):
    return 1 <= len(word) <= LONGEST_NAME and all([sign in LETTERS for sign in word])


def is_question(words):
    if words[0] not in NAMES:
        return False
    bounds = NAMES[words[0]]
    return bounds[0] <= len(words) - 1 <= bounds[1] and all([is_name(word) for word in words[1:]])


def fraction_text(fraction):
    top = fraction[0]
    bottom = fraction[1]
    return f"{top}/{bottom}"


def chance_text(text, chance):
    fraction = fraction_text(chance)
    return f"{text} = {fraction}"


def trace_text(trace):
    return "-" if len(trace) == 0 else " | ".join([row_text(seen) for seen in trace])


def results_text(plan, row):
    return ", ".join([chance_text(row_text(result), chance) for result, chance in chances(plan, row)])


def traces_text(plan, row):
    return ", ".join([chance_text(trace_text(trace), chance) for trace, chance, results in walked(plan, row)])


def steps_text(plan, row):
    return " ".join([fraction_text(mean) for mean in mean_steps(plan, row)])


def quiet_text(plan, rows):
    told = quiet(plan, rows)
    if told == ("quiet",):
        return "quiet"
    one = told[1]
    other = told[2]
    trace = "again" if told[3] is None else trace_text(told[3])
    return f"tells {one} {other} {trace}"


class Desk:

    def __init__(self):
        # A plan is kept with its count of cards, which it doesn't tell itself.
        self.kept_plans = {}
        self.kept_rows = {}

    def say(self, line):
        if not isinstance(line, str):
            raise BadNote("this is no text")
        words = line.split(" ")
        if words[0] == "plan":
            return self.keep_plan(line.split(" ", 3))
        if words[0] == "row":
            return self.keep_row(line.split(" ", 2))
        if words == ["plans"]:
            return " ".join(sorted(self.kept_plans))
        if words == ["rows"]:
            return " ".join(sorted(self.kept_rows))
        if not is_question(words):
            raise BadNote("there is no such line")
        if words[0] == "cards":
            return row_text(self.row_named(words[1]))
        return self.answer(words[0], self.plan_named(words[1]), [self.row_named(name) for name in words[2:]])

    def keep_plan(self, words):
        counts = [str(count) for count in range(1, MOST_CARDS + 1)]
        if len(words) != 4 or not is_name(words[1]) or words[2] not in counts:
            raise BadNote("there is no such line")
        many = int(words[2])
        self.kept_plans[words[1]] = (many, plan_read(words[3], many))
        return "ok"

    def keep_row(self, words):
        if len(words) != 3 or not is_name(words[1]):
            raise BadNote("there is no such line")
        self.kept_rows[words[1]] = row_read(words[2])
        return "ok"

    def plan_named(self, name):
        if name not in self.kept_plans:
            raise NoName(f"no plan is kept as {name}")
        return self.kept_plans[name]

    def row_named(self, name):
        if name not in self.kept_rows:
            raise NoName(f"no row is kept as {name}")
        return self.kept_rows[name]

    def answer(self, question, kept, rows):
        plan = kept[1]
        if not all([len(row) == kept[0] for row in rows]):
            raise NoPlan("the plan is of another count of cards")
        if question == "show":
            return plan_text(plan)
        if question == "results":
            return results_text(plan, rows[0])
        if question == "traces":
            return traces_text(plan, rows[0])
        if question == "steps":
            return steps_text(plan, rows[0])
        return quiet_text(plan, rows)
