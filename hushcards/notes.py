"""Notes: plans and rows written as texts, and read again."""

from hushcards.errors import BadNote
from hushcards.orders import is_row
from hushcards.plans import MOST_WITHIN, is_plan

FIGURES = {"0": 0, "1": 1, "2": 2, "3": 3, "4": 4, "5": 5, "6": 6, "7": 7, "8": 8, "9": 9}


def row_text(row):
    return " ".join([str(number) for number in row])


def way_text(way):
    seen = row_text(way[0])
    inner = plan_text(way[1])
    return f"{seen} : {inner}"


def plan_text(plan):
    form = plan[0]
    if form == "again":
        return "again"
    if form == "mix":
        numbers = " / ".join([row_text(order) for order in plan[1]])
    else:
        numbers = row_text(plan[1])
    if form == "end":
        return f"end {numbers}"
    if form == "look":
        ways = " ; ".join([way_text(way) for way in plan[2]])
        return f"look {numbers} ({ways})"
    inner = plan_text(plan[2])
    return f"{form} {numbers} : {inner}"


def is_number(word):
    return len(word) > 0 and all([sign in FIGURES for sign in word])


def number_of(word):
    # Figure by figure, for Python's own reading fails at words of some thousand figures.
    number = 0
    for sign in word:
        number = 10 * number + FIGURES[sign]
    return number


# Goes through the words of a text. It is no judge of blanks, of a 0 ahead of other figures, nor of what is a plan: who
# reads with it asks whether what was read is one, and is written so.
class Reader:

    def __init__(self, text):
        self.words = text.replace("(", " ( ").replace(")", " ) ").split()
        self.at = 0

    def coming(self):
        return self.words[self.at] if self.at < len(self.words) else ""

    def take(self):
        word = self.coming()
        self.at += 1
        return word

    def takes(self, word):
        if self.coming() != word:
            return False
        self.at += 1
        return True

    def need(self, word):
        if not self.takes(word):
            raise BadNote(f"a word is lacking: {word}")

    def read_numbers(self):
        numbers = []
        while is_number(self.coming()):
            numbers.append(number_of(self.take()))
        return tuple(numbers)

    def read_orders(self):
        orders = [self.read_numbers()]
        while self.takes("/"):
            orders.append(self.read_numbers())
        return tuple(orders)

    def read_way(self, depth):
        seen = self.read_numbers()
        self.need(":")
        return (seen, self.read_plan(depth))

    def read_ways(self, depth):
        self.need("(")
        ways = [self.read_way(depth)]
        while self.takes(";"):
            ways.append(self.read_way(depth))
        self.need(")")
        return tuple(ways)

    def read_plan(self, depth):
        # Asked here, for a long text could lead far deeper than a plan may.
        if depth > MOST_WITHIN:
            raise BadNote("too many plans are within one another")
        form = self.take()
        if form == "again":
            return ("again",)
        if form == "end":
            return ("end", self.read_numbers())
        if form == "look":
            places = self.read_numbers()
            return ("look", places, self.read_ways(depth + 1))
        if form != "lay" and form != "mix":
            raise BadNote(f"no plan begins with {form!r}")
        orders = self.read_numbers() if form == "lay" else self.read_orders()
        self.need(":")
        return (form, orders, self.read_plan(depth + 1))


def plan_read(text, many):
    if not isinstance(text, str):
        raise BadNote("this is no text")
    plan = Reader(text).read_plan(1)
    if not is_plan(plan, many) or plan_text(plan) != text:
        raise BadNote("this is not what is written of a plan of so many cards")
    return plan


def row_read(text):
    if not isinstance(text, str):
        raise BadNote("this is no text")
    row = Reader(text).read_numbers()
    if not is_row(row) or row_text(row) != text:
        raise BadNote("this is not what is written of a row")
    return row
