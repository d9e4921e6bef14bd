"""Formulas of bits: their worth, and plans that reckon it unseen."""

from hushcards.errors import NoFormula
from hushcards.gates import choosing, mixed_and_seen, pair_at, turned, turning
from hushcards.orders import is_whole

MOST_BITS = 3
MOST_FORMULAS_WITHIN = 20


def is_made(thing):
    # Formulas straight within aren't looked at here: is_formula comes to each of them, so that no bound is overrun.
    if not isinstance(thing, tuple) or len(thing) == 0:
        return False
    if thing[0] == "bit":
        return len(thing) == 2 and is_whole(thing[1])
    if thing[0] == "not":
        return len(thing) == 2
    return len(thing) == 3 and thing[0] in ("all", "any", "one")


def formulas_within(formulas):
    inner = []
    for formula in formulas:
        if formula[0] != "bit":
            inner.extend(formula[1:])
    return inner


def is_formula(thing):
    level = [thing]
    depth = 0
    bits = []
    while len(level) > 0:
        depth += 1
        # Each of a level has a bit of its own, at least: with more of them than bits it can't be a formula.
        if depth > MOST_FORMULAS_WITHIN or len(level) > MOST_BITS:
            return False
        if not all([is_made(part) for part in level]):
            return False
        bits.extend([part[1] for part in level if part[0] == "bit"])
        level = formulas_within(level)
    return len(bits) <= MOST_BITS and sorted(bits) == list(range(len(bits)))


def reckoned(formula, bits):
    if formula[0] == "bit":
        return bits[formula[1]]
    parts = [reckoned(part, bits) for part in formula[1:]]
    if formula[0] == "not":
        return 1 - parts[0]
    if formula[0] == "all":
        return min(parts)
    if formula[0] == "any":
        return max(parts)
    return sum(parts) % 2


def worth(formula, bits):
    if not is_formula(formula):
        raise NoFormula("this is no formula")
    return reckoned(formula, bits)


def row_of(bits):
    cards = []
    for bit in bits:
        cards.extend([bit, 1 - bit])
    return tuple(cards + [0, 1])


def steps_of(formula, against):
    # The pairs and gates in the order in which they are reckoned, each gate behind its two parts. What stands against
    # the formula is brought down to the pairs, which are turned for nothing.
    if formula[0] == "bit":
        pair = pair_at(formula[1])
        return [turned(pair) if against else pair]
    if formula[0] == "not":
        return steps_of(formula[1], not against)
    if formula[0] == "one":
        return steps_of(formula[1], against) + steps_of(formula[2], False) + ["one"]
    gate = "all" if (formula[0] == "all") != against else "any"
    return steps_of(formula[1], against) + steps_of(formula[2], against) + [gate]


def piles_of(gate, one, other, free):
    if gate == "one":
        return turning(one, (other,))
    if gate == "all":
        return choosing(one, free, other)
    # Where one is 1, any is 1, which the pair that is 0 tells when it is turned.
    return choosing(one, other, turned(free))


def pair_behind(gate, piles, other, seen):
    if gate == "one":
        return turned(other) if seen == 1 else other
    return piles[seen][1:]


def plan_from(many, steps, pairs, free):
    # What is reckoned already waits in pairs, the last one behind all others.
    if len(steps) == 0:
        return ("end", pairs[0])
    step = steps[0]
    if isinstance(step, tuple):
        return plan_from(many, steps[1:], pairs + [step], free)
    one = pairs[-2]
    other = pairs[-1]
    piles = piles_of(step, one, other, free)
    plans = []
    for seen in (0, 1):
        told = pair_behind(step, piles, other, seen)
        # What is seen of one says how it must be read to be a pair that is 0, free for the next gate.
        freed = turned(one) if seen == 1 else one
        plans.append(plan_from(many, steps[1:], pairs[:-2] + [told], freed))
    return mixed_and_seen(many, piles, plans)


def plan_of(formula):
    if not is_formula(formula):
        raise NoFormula("this is no formula")
    steps = steps_of(formula, False)
    # There is a pair for each bit, and the free one behind them.
    free = len([step for step in steps if isinstance(step, tuple)])
    return plan_from(2 * free + 2, steps, [], pair_at(free))
