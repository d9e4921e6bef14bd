"""States: which rows may lie on the way through a plan, and how likely each of them is for each deal."""

from hushcards.fractions import common_bottom, ratio, total
from hushcards.orders import cards_at
from hushcards.plans import walk_once
from hushcards.shuffles import spread


def whole_weights(state, number):
    # The weights of one deal as whole numbers over one bottom, which spares bringing each to lowest terms at each step.
    bottom = common_bottom([weights[number] for row, weights in state])
    whole = {}
    for row, weights in state:
        weight = weights[number]
        whole[row] = weight[0] * (bottom // weight[1])
    return (whole, bottom)


def state_of(deals):
    rows = []
    for whole, bottom in deals:
        rows.extend(list(whole))
    state = []
    for row in sorted(set(rows)):
        state.append((row, tuple([ratio(whole.get(row, 0), bottom) for whole, bottom in deals])))
    return tuple(state)


def begun(rows):
    return state_of([({row: 1}, 1) for row in rows])


def deal_numbers(state):
    return list(range(len(state[0][1])))


def mixed_state(state, shuffle):
    mixed = []
    for number in deal_numbers(state):
        deal = whole_weights(state, number)
        mixed.append((spread(deal[0], shuffle), deal[1] * len(shuffle)))
    return state_of(mixed)


def laid_state(state, order):
    return mixed_state(state, (order,))


def looked_state(state, places):
    parts = {}
    for row, weights in state:
        seen = cards_at(row, places)
        if seen not in parts:
            parts[seen] = []
        parts[seen].append((row, weights))
    return [(seen, tuple(parts[seen])) for seen in sorted(parts)]


def sums_of(state):
    return [total([weights[number] for row, weights in state]) for number in deal_numbers(state)]


def is_quiet_look(state, places):
    return all([len(set(sums_of(part))) == 1 for seen, part in looked_state(state, places)])


def ends_of(plan, rows):
    deals = {}
    places = {}
    # Row by row, so that the first row for which there is no way refuses.
    for number, row in enumerate(rows):
        for scene in walk_once(plan, row).ends:
            # A trace tells all that was chosen on the way, and so the end, too.
            if scene.trace not in deals:
                deals[scene.trace] = [({}, 1)] * len(rows)
                places[scene.trace] = scene.plan[1]
            deals[scene.trace][number] = (scene.weights, scene.bottom)
    return [(trace, places[trace], state_of(deals[trace])) for trace in sorted(deals)]
