"""Shuffles: tuples of orders, each place of the tuple as likely as each other one."""

from hushcards.errors import TooMany
from hushcards.fractions import common_bottom, greatest_divisor, ratio
from hushcards.orders import cards_at, is_order, then

MOST_ORDERS = 24
MOST_SPANNED = 120
MOST_PILES_MIXED = 4


def is_shuffle(thing, many):
    if not isinstance(thing, tuple) or not 1 <= len(thing) <= MOST_ORDERS:
        return False
    return all([is_order(part, many) for part in thing])


def counted(shuffle):
    often = {}
    for order in shuffle:
        often[order] = often.get(order, 0) + 1
    return often


def spread(weights, shuffle):
    # The weights are whole numbers and stay so: together they grow as many times as there are orders.
    gathered = {}
    for order, often in counted(shuffle).items():
        for row, weight in weights.items():
            changed = cards_at(row, order)
            gathered[changed] = gathered.get(changed, 0) + weight * often
    return gathered


def shuffled(mix, shuffle):
    # Whole weights over one bottom spare bringing each chance to lowest terms on the way.
    bottom = common_bottom([chance for row, chance in mix])
    weights = {}
    for row, chance in mix:
        weights[row] = chance[0] * (bottom // chance[1])
    gathered = spread(weights, shuffle)
    return [(row, ratio(gathered[row], bottom * len(shuffle))) for row in sorted(gathered)]


def lessened(often):
    # Divided by what divides them all, the numbers are the least ones by which each order is as likely as it was.
    divisor = 0
    for number in often.values():
        divisor = greatest_divisor(divisor, number)
    least = {}
    for order, number in often.items():
        least[order] = number // divisor
    return least


def same(one, other):
    return lessened(counted(one)) == lessened(counted(other))


def both(one, other):
    often = {}
    for first, number in counted(one).items():
        for second, more in counted(other).items():
            order = then(first, second)
            often[order] = often.get(order, 0) + number * more
    least = lessened(often)
    if sum(least.values()) > MOST_ORDERS:
        raise TooMany(f"both together have more than {MOST_ORDERS} orders")
    orders = []
    for order in sorted(least):
        orders.extend([order] * least[order])
    return tuple(orders)


def is_closed(shuffle):
    often = counted(shuffle)
    if min(often.values()) != max(often.values()):
        return False
    for one in often:
        if not all([then(one, other) in often for other in often]):
            return False
    return True


def spanned(many, orders):
    start = tuple(range(many))
    met = {start: True}
    fresh = [start]
    while len(fresh) > 0:
        further = []
        for reached in fresh:
            for order in orders:
                follower = then(reached, order)
                if follower not in met:
                    met[follower] = True
                    further.append(follower)
                # Asked at once, for eight cards have far too many orders to go through them first.
                if len(met) > MOST_SPANNED:
                    raise TooMany(f"the orders span more than {MOST_SPANNED} orders")
        fresh = further
    return sorted(met)


def exchanged(many, piles, sources):
    # All places that stand in no pile stay.
    order = list(range(many))
    for pile, source in zip(piles, sources):
        for place, origin in zip(pile, piles[source]):
            order[place] = origin
    return tuple(order)


def pile_cut(many, piles):
    numbers = tuple(range(len(piles)))
    return tuple([exchanged(many, piles, numbers[turn:] + numbers[:turn]) for turn in numbers])


def cut(many, places):
    return pile_cut(many, tuple([(place,) for place in places]))


def arrangements(numbers):
    if len(numbers) == 0:
        return [()]
    told = []
    for number in numbers:
        rest = [other for other in numbers if other != number]
        told.extend([(number,) + more for more in arrangements(rest)])
    return told


def pile_mix(many, piles):
    if len(piles) > MOST_PILES_MIXED:
        raise TooMany(f"more than {MOST_PILES_MIXED} piles are not mixed")
    return tuple([exchanged(many, piles, sources) for sources in arrangements(list(range(len(piles))))])
