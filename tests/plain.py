"""What the tests reckon with on their own: every single walk of a plan, and plans at haphazard."""

from fractions import Fraction
from itertools import product


class Reckoner:
    """Goes through every single walk of one round, by a way of its own."""

    def __init__(self, plan, row):
        self.ends = {}
        self.rows = {}
        self.again = Fraction(0)
        self.steps = {"lay": Fraction(0), "mix": Fraction(0), "look": Fraction(0)}
        self.missing = []
        self.go(plan, row, (), Fraction(1))

    def go(self, plan, row, trace, chance):
        if plan[0] == "end":
            results = self.ends.setdefault(trace, {})
            result = tuple([row[place] for place in plan[1]])
            results[result] = results.get(result, 0) + chance
            rows = self.rows.setdefault((trace, plan[1]), {})
            rows[row] = rows.get(row, 0) + chance
        elif plan[0] == "again":
            self.again += chance
        else:
            self.steps[plan[0]] += chance
            self.step(plan, row, trace, chance)

    def step(self, plan, row, trace, chance):
        if plan[0] == "lay":
            self.go(plan[2], tuple([row[place] for place in plan[1]]), trace, chance)
        elif plan[0] == "mix":
            for order in plan[1]:
                self.go(plan[2], tuple([row[place] for place in order]), trace, chance / len(plan[1]))
        else:
            seen = tuple([row[place] for place in plan[1]])
            inner = [way[1] for way in plan[2] if way[0] == seen]
            if inner:
                self.go(inner[0], row, trace + (seen,), chance)
            else:
                self.missing.append(seen)

    def told(self):
        listed = []
        for trace in sorted(self.ends):
            together = sum(self.ends[trace].values())
            results = [(result, as_tuple(chance / together)) for result, chance in sorted(self.ends[trace].items())]
            listed.append((trace, as_tuple(together / (1 - self.again)), results))
        return listed

    def means(self):
        return tuple([as_tuple(self.steps[form] / (1 - self.again)) for form in ("lay", "mix", "look")])


def as_tuple(value):
    return (value.numerator, value.denominator)


def some_plan(source, many, depth):
    form = source.choice(["end", "again"] if depth == 0 else ["end", "lay", "mix", "mix", "look", "look", "again"])
    if form == "end":
        return ("end", tuple(source.sample(range(many), source.randint(1, many))))
    if form == "again":
        return ("again",)
    if form == "look":
        places = tuple(source.sample(range(many), source.randint(1, min(2, many))))
        every = list(product(range(2), repeat=len(places)))
        seen = sorted(source.sample(every, len(every) - (source.random() < 0.15)))
        return ("look", places, tuple([(each, some_plan(source, many, depth - 1)) for each in seen]))
    orders = tuple([tuple(source.sample(range(many), many)) for step in range(source.randint(1, 4))])
    return (form, orders if form == "mix" else orders[0], some_plan(source, many, depth - 1))
