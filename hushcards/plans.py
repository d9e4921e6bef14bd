"""Plans: what they are, and how they are walked."""

from hushcards.errors import NoEnd, NoWay
from hushcards.fractions import over, plus, ratio
from hushcards.orders import cards_at, is_card, is_order, is_whole
from hushcards.shuffles import is_shuffle, spread

MOST_PLANS = 60
MOST_WITHIN = 12


def are_places(thing, many):
    if not isinstance(thing, tuple) or len(thing) == 0:
        return False
    if not all([is_whole(place) and 0 <= place < many for place in thing]):
        return False
    return len(set(thing)) == len(thing)


def is_way(thing, size):
    if not isinstance(thing, tuple) or len(thing) != 2:
        return False
    seen = thing[0]
    return isinstance(seen, tuple) and len(seen) == size and all([is_card(card) for card in seen])


def are_ways(thing, size):
    if not isinstance(thing, tuple) or len(thing) == 0:
        return False
    # The ways come first: only what is seen, tuples of cards, can be compared safely.
    if not all([is_way(way, size) for way in thing]):
        return False
    return all([one[0] < other[0] for one, other in zip(thing, thing[1:])])


def has_form(thing, many):
    # Plans straight within aren't looked at here: is_plan comes to each of them, so that no bound is overrun.
    if not isinstance(thing, tuple) or len(thing) == 0:
        return False
    if thing[0] == "again":
        return len(thing) == 1
    if thing[0] == "end":
        return len(thing) == 2 and are_places(thing[1], many)
    if len(thing) != 3:
        return False
    if thing[0] == "lay":
        return is_order(thing[1], many)
    if thing[0] == "mix":
        return is_shuffle(thing[1], many)
    return thing[0] == "look" and are_places(thing[1], many) and are_ways(thing[2], len(thing[1]))


def plans_within(plans):
    inner = []
    for plan in plans:
        if plan[0] == "lay" or plan[0] == "mix":
            inner.append(plan[2])
        elif plan[0] == "look":
            inner.extend([way[1] for way in plan[2]])
    return inner


def is_plan(thing, many):
    level = [thing]
    met = 0
    depth = 0
    # Asked at each level, for a tuple that stands at many places of a deep thing could be met nearly without end.
    while len(level) > 0:
        met += len(level)
        depth += 1
        if met > MOST_PLANS or depth > MOST_WITHIN:
            return False
        if not all([has_form(part, many) for part in level]):
            return False
        level = plans_within(level)
    return True


def levels_of(plan):
    levels = []
    level = [plan]
    while len(level) > 0:
        levels.append(level)
        level = plans_within(level)
    return levels


def plans_in(plan):
    return sum([len(level) for level in levels_of(plan)])


# A plan that is come to, what was seen ahead of it, and the rows that may lie there. Their weights are whole numbers,
# over one bottom, since bringing each chance to lowest terms at each step would take far longer.
class Scene:

    def __init__(self, plan, trace, bottom, weights):
        self.plan = plan
        self.trace = trace
        self.bottom = bottom
        self.weights = weights


# A plan walked once, up to its ends and agains: the scenes at its ends, and how often each form is met in the mean.
class Round:

    def __init__(self):
        self.ends = []
        self.mean = {"end": (0, 1), "lay": (0, 1), "mix": (0, 1), "look": (0, 1), "again": (0, 1)}


def chance_of(scene):
    return ratio(sum(scene.weights.values()), scene.bottom)


def behind_orders(scene, orders):
    return Scene(scene.plan[2], scene.trace, scene.bottom * len(orders), spread(scene.weights, orders))


def behind_look(scene):
    parts = {}
    for row, weight in scene.weights.items():
        seen = cards_at(row, scene.plan[1])
        if seen not in parts:
            parts[seen] = {}
        parts[seen][row] = weight
    ways = dict(scene.plan[2])
    for seen in parts:
        if seen not in ways:
            raise NoWay(seen)
    return [Scene(ways[seen], scene.trace + (seen,), scene.bottom, parts[seen]) for seen in parts]


def scenes_behind(scene):
    if scene.plan[0] == "lay":
        return [behind_orders(scene, (scene.plan[1],))]
    if scene.plan[0] == "mix":
        return [behind_orders(scene, scene.plan[1])]
    if scene.plan[0] == "look":
        return behind_look(scene)
    return []


def walk_once(plan, row):
    walk = Round()
    waiting = [Scene(plan, (), 1, {row: 1})]
    while len(waiting) > 0:
        scene = waiting.pop()
        form = scene.plan[0]
        walk.mean[form] = plus(walk.mean[form], chance_of(scene))
        if form == "end":
            walk.ends.append(scene)
        waiting.extend(scenes_behind(scene))
    return walk


def round_of(plan, row):
    walk = walk_once(plan, row)
    # Asked only when all is walked, for what has no way is refused ahead of this, wherever it may be seen.
    if len(walk.ends) == 0:
        raise NoEnd("no walk comes to an end")
    return walk


def results_of(scene):
    weights = {}
    for row, weight in scene.weights.items():
        result = cards_at(row, scene.plan[1])
        weights[result] = weights.get(result, 0) + weight
    together = sum(weights.values())
    return [(result, ratio(weights[result], together)) for result in sorted(weights)]


def walked(plan, row):
    walk = round_of(plan, row)
    # An again begins the same round anew, so it changes nothing of how the ends' chances stand to one another.
    ended = walk.mean["end"]
    return sorted([(scene.trace, over(chance_of(scene), ended), results_of(scene)) for scene in walk.ends])


def again_chance(plan, row):
    return round_of(plan, row).mean["again"]


def mean_steps(plan, row):
    walk = round_of(plan, row)
    # In the mean there are 1 / ended rounds, each alike.
    ended = walk.mean["end"]
    return tuple([over(walk.mean[form], ended) for form in ("lay", "mix", "look")])
