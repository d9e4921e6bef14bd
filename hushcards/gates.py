"""Gates: plans put together, and plans that reckon with pairs of cards."""

from hushcards.errors import NoPlan, TooMany
from hushcards.plans import MOST_PLANS, MOST_WITHIN, levels_of, plans_in
from hushcards.shuffles import pile_mix


def with_more(plan, more):
    if plan[0] == "end":
        return ("lay", plan[1], more)
    if plan[0] == "look":
        return ("look", plan[1], tuple([(seen, with_more(inner, more)) for seen, inner in plan[2]]))
    if plan[0] == "again":
        return plan
    return (plan[0], plan[1], with_more(plan[2], more))


def tells_all_places(many, plan):
    for level in levels_of(plan):
        if not all([len(part[1]) == many for part in level if part[0] == "end"]):
            return False
    return True


def is_too_great(plan):
    return plans_in(plan) > MOST_PLANS or len(levels_of(plan)) > MOST_WITHIN


def followed(many, plan, more):
    if not tells_all_places(many, plan):
        raise NoPlan("an end doesn't tell all places")
    joined = with_more(plan, more)
    if is_too_great(joined):
        raise TooMany("what comes is too great for a plan")
    return joined


def pair_at(number):
    return (2 * number, 2 * number + 1)


def turned(pair):
    # Read from its second card on, a pair is the other one: no card needs to be moved for it.
    return (pair[1], pair[0])


def whole_end(many, pairs):
    places = []
    for pair in pairs:
        places.extend(pair)
    return ("end", tuple(places + [place for place in range(many) if place not in places]))


def mixed_and_seen(many, piles, plans):
    # The piles are exchanged or not, unseen. Each begins with a card of one pair, so looking at the first card tells
    # by chance alone whether that pair is 0 or 1 now, and with it how all else in the piles stands to what it was.
    return ("mix", pile_mix(many, piles), ("look", (piles[0][0],), (((0,), plans[0]), ((1,), plans[1]))))


def turning(one, others):
    # Piles by which all these pairs are turned or none.
    return ((one[0],) + tuple([pair[0] for pair in others]), (one[1],) + tuple([pair[1] for pair in others]))


def choosing(one, low, high):
    # Piles by which low and high are exchanged with one's turning: where one is seen as 0, low's places have what low
    # had if one was 0, and what high had if it was 1; where it is seen as 1, high's places have it.
    return ((one[0],) + low, (one[1],) + high)


def negated(many, at):
    pair = pair_at(at)
    order = list(range(many))
    order[pair[0]] = pair[1]
    order[pair[1]] = pair[0]
    return ("end", tuple(order))


def oned(many, one, other):
    first = pair_at(one)
    second = pair_at(other)
    ends = (whole_end(many, (second, first)), whole_end(many, (turned(second), turned(first))))
    return mixed_and_seen(many, turning(first, (second,)), ends)


def anded(many, one, other, free):
    first = pair_at(one)
    low = pair_at(free)
    high = pair_at(other)
    ends = (whole_end(many, (low, first, high)), whole_end(many, (high, turned(first), low)))
    return mixed_and_seen(many, choosing(first, low, high), ends)


def copied(many, one, first, second):
    pair = pair_at(one)
    copies = (pair_at(first), pair_at(second))
    ends = (whole_end(many, copies + (pair,)),
            whole_end(many, (turned(copies[0]), turned(copies[1]), turned(pair))))
    return mixed_and_seen(many, turning(pair, copies), ends)
