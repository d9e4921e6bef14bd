"""Quiet: what the traces of a plan tell of the row that was dealt."""

from hushcards.fractions import over, times, total
from hushcards.plans import chance_of, round_of


# What may be seen of a plan from one row: the chance of an again, and of each trace that there may be at an end.
class View:

    def __init__(self, again, traces):
        self.again = again
        self.traces = traces


def view_of(plan, row):
    walk = round_of(plan, row)
    ended = walk.mean["end"]
    traces = {}
    for scene in walk.ends:
        traces[scene.trace] = over(chance_of(scene), ended)
    return View(walk.mean["again"], traces)


def told_apart(one, other):
    return one.again != other.again or one.traces != other.traces


def first_unlike(one, other):
    if one.again != other.again:
        return None
    # A trace that only one of both may show stands in only one of these dicts, and is unlike, too.
    traces = list(one.traces) + list(other.traces)
    return min([trace for trace in traces if one.traces.get(trace) != other.traces.get(trace)])


def quiet_but(plan, rows, marks):
    # All rows are walked ahead of all else, for a refusal comes first, whichever rows are held against one another.
    views = [view_of(plan, row) for row in rows]
    for one in range(len(views)):
        for other in range(one + 1, len(views)):
            if marks[one] == marks[other] and told_apart(views[one], views[other]):
                return ("tells", one, other, first_unlike(views[one], views[other]))
    return ("quiet",)


def quiet(plan, rows):
    return quiet_but(plan, rows, [0] * len(rows))


def knows(plan, rows, weights, trace):
    # Rows of weight nought are walked, too, for what they refuse is refused.
    chances = [view_of(plan, row).traces.get(trace, (0, 1)) for row in rows]
    shares = [times(weight, chance) for weight, chance in zip(weights, chances)]
    together = total(shares)
    if together[0] == 0:
        return None
    return tuple([over(share, together) for share in shares])
