"""Right: whether what comes out of a plan is what is due."""

from hushcards.fractions import plus, times
from hushcards.plans import walked


def first_wrong(plan, row, due):
    for trace, chance, results in walked(plan, row):
        for result, part in results:
            if result != due:
                return (trace, result)
    return None


def judged(plan, deals):
    for number, deal in enumerate(deals):
        wrong = first_wrong(plan, deal[0], deal[1])
        if wrong is not None:
            return ("wrong", number, wrong[0], wrong[1])
    return ("right",)


def chances(plan, row):
    gathered = {}
    for trace, chance, results in walked(plan, row):
        for result, part in results:
            gathered[result] = plus(gathered.get(result, (0, 1)), times(chance, part))
    return [(result, gathered[result]) for result in sorted(gathered)]


def may_come(plan, row, trace, result):
    for other, chance, results in walked(plan, row):
        if other == trace:
            return result in [each for each, part in results]
    return False


def shows(plan, deals, paper):
    if paper[0] == "right":
        return judged(plan, deals) == ("right",)
    number = paper[1]
    # A number below nought would else reach a deal from behind.
    if not 0 <= number < len(deals):
        return False
    deal = deals[number]
    return may_come(plan, deal[0], paper[2], paper[3]) and paper[3] != deal[1]
