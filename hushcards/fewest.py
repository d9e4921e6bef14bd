"""Fewest: plans of a small menu, and the least of them that is right and quiet."""

from hushcards.states import begun, is_quiet_look, looked_state, mixed_state


def depth_in(plan, menu):
    if plan[0] == "end":
        return 0
    if plan[0] == "mix" and plan[1] in menu:
        inner = [plan[2]]
    elif plan[0] == "look" and len(plan[1]) == 1:
        inner = [way[1] for way in plan[2]]
    else:
        return None
    depths = [depth_in(part, menu) for part in inner]
    if None in depths:
        return None
    return 1 + max(depths)


def cards_told(state, place):
    # For each deal the one card that lies there; None where it may be one or another.
    told = [None] * len(state[0][1])
    for row, weights in state:
        for number, weight in enumerate(weights):
            if weight[0] > 0 and told[number] not in (None, row[place]):
                return None
            if weight[0] > 0:
                told[number] = row[place]
    return tuple(told)


def right_end(state, dues):
    told = [cards_told(state, place) for place in range(len(state[0][0]))]
    places = []
    for number in range(len(dues[0])):
        due = tuple([each[number] for each in dues])
        # Any place that tells what is due here is as good as another one: it can tell nothing else that is due.
        fitting = [place for place in range(len(told)) if told[place] == due and place not in places]
        if len(fitting) == 0:
            return None
        places.append(fitting[0])
    return ("end", tuple(places))


def look_within(state, place, dues, menu, depth):
    # A trace has the same chance from all rows only if all that it begins with has: so each look must be quiet.
    if not is_quiet_look(state, (place,)):
        return None
    parts = looked_state(state, (place,))
    # Where only one card may be seen the look changes nothing.
    if len(parts) == 1:
        return None
    ways = []
    for seen, part in parts:
        plan = plan_within(part, dues, menu, depth - 1)
        if plan is None:
            return None
        ways.append((seen, plan))
    return ("look", (place,), tuple(ways))


def mix_within(state, shuffle, dues, menu, depth):
    plan = plan_within(mixed_state(state, shuffle), dues, menu, depth - 1)
    return None if plan is None else ("mix", shuffle, plan)


def plan_within(state, dues, menu, depth):
    plan = right_end(state, dues)
    if plan is not None or depth == 0:
        return plan
    for place in range(len(state[0][0])):
        plan = look_within(state, place, dues, menu, depth)
        if plan is not None:
            return plan
    # A mix straight ahead of an end is of no use: what is told behind it lies somewhere ahead of it, too.
    if depth == 1:
        return None
    for shuffle in menu:
        plan = mix_within(state, shuffle, dues, menu, depth)
        if plan is not None:
            return plan
    return None


def fewest(deals, menu, most):
    state = begun([row for row, due in deals])
    dues = [due for row, due in deals]
    # Depth by depth, so that the first plan found is of the least one.
    for depth in range(most + 1):
        plan = plan_within(state, dues, menu, depth)
        if plan is not None:
            return plan
    return None
