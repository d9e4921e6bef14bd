"""What is promised over the whole program: the interface, and that nothing handed in or told is shared."""

import copy
import importlib
import inspect
import unittest

from hushcards.desk import Desk
from hushcards.errors import CardError

INTERFACE = {
    "fractions": {"ratio": "top bottom", "plus": "one other", "times": "one other", "over": "one other", "total": "some"},
    "orders": {"is_row": "thing", "is_order": "thing many", "laid": "row order", "then": "one other", "back": "order",
               "rounds": "order", "order_to": "row other"},
    "shuffles": {"is_shuffle": "thing many", "shuffled": "mix shuffle", "same": "one other", "both": "one other",
                 "is_closed": "shuffle", "spanned": "many orders", "cut": "many places", "pile_cut": "many piles",
                 "pile_mix": "many piles"},
    "plans": {"is_plan": "thing many", "plans_in": "plan", "walked": "plan row", "again_chance": "plan row",
              "mean_steps": "plan row"},
    "right": {"judged": "plan deals", "chances": "plan row", "shows": "plan deals paper"},
    "quiet": {"quiet": "plan rows", "quiet_but": "plan rows marks", "knows": "plan rows weights trace"},
    "gates": {"followed": "many plan more", "negated": "many at", "oned": "many one other", "anded": "many one other free",
              "copied": "many one first second"},
    "formulas": {"is_formula": "thing", "worth": "formula bits", "plan_of": "formula", "row_of": "bits"},
    "states": {"begun": "rows", "laid_state": "state order", "mixed_state": "state shuffle", "looked_state": "state places",
               "is_quiet_look": "state places", "ends_of": "plan rows"},
    "fewest": {"depth_in": "plan menu", "fewest": "deals menu most"},
    "notes": {"plan_text": "plan", "row_text": "row", "plan_read": "text many", "row_read": "text"},
}

COIN = ((0, 1), (1, 0))
PLAN = ("mix", COIN, ("look", (0,), (((0,), ("end", (1, 0))), ((1,), ("lay", (1, 0), ("end", (0, 1)))))))
PATIENT = ("mix", COIN, ("look", (0,), (((0,), ("end", (1,))), ((1,), ("again",)))))
FORMULA = ("all", ("bit", 0), ("not", ("bit", 1)))
STATE = (((0, 1), ((1, 2), (1, 3))), ((1, 0), ((1, 2), (2, 3))))
THING = ["again", [(0, [1]), {"a": [0]}], ("end", [0])]
DEALS = [((0, 1), (1,)), ((1, 0), (1,))]

# What each function is asked; several times where it takes several kinds of things.
ASKED = {
    "ratio": [(6, -4)], "plus": [((1, 2), (1, 3))], "times": [((1, 2), (2, 3))], "over": [((1, 2), (3, 4))],
    "total": [([(1, 2), (1, 3)],), ([],)],
    "is_row": [((0, 1),), (THING,)], "is_order": [((1, 0), 2), (THING, 2)],
    "laid": [((5, 6), (1, 0)), (([1], {"a": [2]}, [1]), (2, 1, 0))], "then": [((1, 0), (1, 0))], "back": [((1, 2, 0),)],
    "rounds": [((1, 0, 2),)], "order_to": [((0, 1), (1, 0)), ((0, 1), (1, 1))],
    "is_shuffle": [(COIN, 2), (THING, 2)], "shuffled": [([((0, 1), (1, 3)), ((1, 1), (2, 3))], COIN)], "same": [(COIN, COIN)],
    "both": [(COIN, COIN), (((0, 1, 2, 3),) * 23 + ((1, 0, 2, 3),), ((0, 1, 2, 3),) * 23 + ((2, 0, 1, 3),))],
    "is_closed": [(COIN,)], "spanned": [(2, [(1, 0)]), (6, [(1, 0, 2, 3, 4, 5), (1, 2, 3, 4, 5, 0)])], "cut": [(3, (0, 2))],
    "pile_cut": [(4, ((0, 1), (2, 3)))], "pile_mix": [(4, ((0, 1), (2, 3))), (5, ((0,), (1,), (2,), (3,), (4,)))],
    "is_plan": [(PLAN, 2), (THING, 2)], "plans_in": [(PLAN,)], "walked": [(PLAN, (0, 1)), (PLAN, (2, 1))],
    "again_chance": [(PATIENT, (0, 1)), (("again",), (0, 1))], "mean_steps": [(PATIENT, (0, 1))],
    "judged": [(PLAN, [((0, 1), (1, 0)), ((1, 0), (0, 1))]), (PLAN, [((2, 0), (1,))])], "chances": [(PATIENT, (0, 1))],
    "shows": [(PLAN, [((0, 1), (1, 1))], ("wrong", 0, ((0,),), (1, 0)))],
    "quiet": [(PLAN, [(0, 1), (1, 0)]), (PLAN, [(0, 1), (0, 0)])], "quiet_but": [(PLAN, [(0, 1), (0, 0)], [1, 1])],
    "knows": [(PLAN, [(0, 1), (0, 0)], [(1, 3), (2, 3)], ((0,),))],
    "followed": [(2, PLAN, PATIENT), (2, PATIENT, PLAN)], "negated": [(4, 1)], "oned": [(4, 1, 0)], "anded": [(6, 0, 1, 2)],
    "copied": [(6, 0, 1, 2)],
    "is_formula": [(FORMULA,), (THING,)], "worth": [(FORMULA, (1, 0)), (THING, (1, 0))], "plan_of": [(FORMULA,), (THING,)],
    "row_of": [((1, 0, 1),)],
    "begun": [([(0, 1), (1, 0)],)], "laid_state": [(STATE, (1, 0))], "mixed_state": [(STATE, COIN)],
    "looked_state": [(STATE, (0,))], "is_quiet_look": [(STATE, (0,))], "ends_of": [(PLAN, [(0, 1), (1, 0)]), (PLAN, [(2, 0)])],
    "depth_in": [(PLAN, (COIN,)), (("mix", COIN, ("end", (0,))), (COIN,))], "fewest": [(DEALS, (COIN,), 3), (DEALS, (COIN,), 1)],
    "plan_text": [(PLAN,)], "row_text": [((0, 1),)], "plan_read": [("lay 1 0 : end 0", 2), (THING, 2)],
    "row_read": [("0 1",), (THING,)],
}


def functions():
    for module, names in INTERFACE.items():
        loaded = importlib.import_module("hushcards." + module)
        for name, arguments in names.items():
            yield name, getattr(loaded, name), arguments.split()


def changeable(thing):
    """All lists and dicts within, like ones as often as they stand there."""
    met = []
    if isinstance(thing, (list, tuple)):
        for part in thing:
            met.extend(changeable(part))
    if isinstance(thing, dict):
        for part in thing.values():
            met.extend(changeable(part))
    if isinstance(thing, (list, dict)):
        met.append(thing)
    return met


def answer(ask, handed):
    """What is told, or the refusal's class, with what it has seen."""
    try:
        return ask(*handed)
    except CardError as refusal:
        return (type(refusal).__name__, getattr(refusal, "seen", None))


class Interface(unittest.TestCase):

    def test_names_and_arguments(self):
        for name, ask, arguments in functions():
            self.assertEqual(list(inspect.signature(ask).parameters), arguments, name)

    def test_arguments_by_name(self):
        for name, ask, arguments in functions():
            for handed in ASKED[name]:
                by_name = answer(lambda: ask(**dict(zip(arguments, copy.deepcopy(handed)))), ())
                self.assertEqual(by_name, answer(ask, copy.deepcopy(handed)), name)

    def test_the_desk(self):
        self.assertEqual(list(inspect.signature(Desk).parameters), [])
        self.assertEqual(list(inspect.signature(Desk().say).parameters), ["line"])

    def test_every_function_is_asked(self):
        self.assertEqual(sorted([name for name, ask, arguments in functions()]), sorted(ASKED))


class NothingShared(unittest.TestCase):

    def each(self):
        for name, ask, arguments in functions():
            for handed in ASKED[name]:
                yield name, ask, copy.deepcopy(handed)

    def test_handed_in_stays(self):
        for name, ask, handed in self.each():
            ahead = copy.deepcopy(handed)
            answer(ask, handed)
            self.assertEqual(handed, ahead, name)
            self.assertEqual(repr(handed), repr(ahead), name)

    def test_asked_again(self):
        for name, ask, handed in self.each():
            first = answer(ask, handed)
            self.assertEqual(repr(answer(ask, handed)), repr(first), name)
            self.assertEqual(repr(answer(ask, copy.deepcopy(handed))), repr(first), name)

    def test_told_is_the_askers_own(self):
        for name, ask, handed in self.each():
            first = answer(ask, handed)
            due = copy.deepcopy(first)
            inner = changeable(first)
            self.assertEqual(len(set([id(part) for part in inner])), len(inner), name)
            own = set([id(part) for part in changeable(handed)])
            self.assertEqual([part for part in inner if id(part) in own], [], name)
            for part in inner:
                part.clear()
            self.assertEqual(answer(ask, handed), due, name)

    def test_handed_in_may_change_later(self):
        for name, ask, handed in self.each():
            kept = copy.deepcopy(handed)
            first = answer(ask, handed)
            due = copy.deepcopy(first)
            for part in changeable(handed):
                part.clear()
            self.assertEqual(first, due, name)
            self.assertEqual(answer(ask, kept), due, name)


if __name__ == "__main__":
    unittest.main()
