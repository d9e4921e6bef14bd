import unittest
from itertools import combinations, product
from random import Random

from hushcards.errors import CardError, NoFormula
from hushcards.formulas import is_formula, plan_of, row_of, worth
from hushcards.orders import is_row
from hushcards.plans import is_plan, plans_in
from hushcards.quiet import quiet
from hushcards.right import judged

A = ("bit", 0)
B = ("bit", 1)
C = ("bit", 2)
GATES = ("all", "any", "one")

NO_FORMULAS = (
    None, True, False, 0, 1, -1, 10 ** 400, "", "bit", "not", "all", [], ["bit", 0], {}, {"bit": 0}, {0: A}, (), ((),),
    (None,), (A,), ("bit",), ("not",), ("all",), ("any",), ("one",), (A, A), (0, "bit"), ("bit", 0, 0), ("bit", A),
    ("bit", ()), ("bit", (0,)), ("bit", [0]), ("bit", "0"), ("bit", None), ("bit", True), ("bit", False), ("bit", -1),
    ("bit", 1), ("bit", 2), ("bit", 3), ("bit", 10 ** 400), ("bits", 0), ("Bit", 0), ("bit ", 0), ("", 0), (None, 0),
    (["bit"], 0), (("bit",), 0), ({}, 0), ("not", 0), ("not", "bit"), ("not", None), ("not", ()), ("not", [A]),
    ("not", ["bit", 0]), ("not", A, A), ("not", A, B), ("not", A, ()), ("Not", A), ("nor", A), ("and", A, B),
    ("or", A, B), ("xor", A, B), ("end", (0,)), ("again",), ["not", A],
)


def gates_over(bits):
    """All formulas without nots over these bits."""
    if len(bits) == 1:
        return [("bit", bits[0])]
    made = []
    for size in range(1, len(bits)):
        for left in combinations(bits, size):
            right = tuple([bit for bit in bits if bit not in left])
            for word in GATES:
                made.extend([(word, one, other) for one in gates_over(left) for other in gates_over(right)])
    return made


def with_nots(formula):
    """The formula with and without a not ahead of each of its parts."""
    if formula[0] == "bit":
        made = [formula]
    else:
        made = [(formula[0], one, other) for one in with_nots(formula[1]) for other in with_nots(formula[2])]
    return made + [("not", each) for each in made]


def nots(count, formula):
    for step in range(count):
        formula = ("not", formula)
    return formula


def plain_worth(formula, bits):
    if formula[0] == "bit":
        return bits[formula[1]] == 1
    if formula[0] == "not":
        return not plain_worth(formula[1], bits)
    one = plain_worth(formula[1], bits)
    other = plain_worth(formula[2], bits)
    return {"all": one and other, "any": one or other, "one": one != other}[formula[0]]


def forms_in(plan):
    if plan[0] in ("lay", "mix"):
        return [plan[0]] + forms_in(plan[2])
    if plan[0] == "look":
        return [plan[0]] + [form for seen, inner in plan[2] for form in forms_in(inner)]
    return [plan[0]]


class IsFormula(unittest.TestCase):

    def holds(self, thing):
        self.assertIs(is_formula(thing), True, thing)

    def misses(self, thing):
        self.assertIs(is_formula(thing), False, thing)

    def test_of_anything(self):
        for thing in NO_FORMULAS:
            self.misses(thing)
            self.misses(("not", thing))
            for word in GATES:
                self.misses((word, thing, thing))

    def test_parts_of_anything(self):
        # A bit beyond alone would be right beside its elders.
        for thing in NO_FORMULAS:
            if thing not in (("bit", 1), ("bit", 2)):
                for word in GATES:
                    self.misses((word, A, thing))
                    self.misses((word, thing, A))
                    self.misses((word, A, (word, B, thing)))
                    self.misses((word, (word, thing, B), A))

    def test_each_form(self):
        self.holds(A)
        self.holds(("not", A))
        for word in GATES:
            self.holds((word, A, B))
            self.holds((word, B, A))
            self.holds((word, C, ("not", (word, A, ("not", B)))))

    def test_all_of_one_to_three_bits(self):
        for count in (1, 2, 3):
            for formula in gates_over(tuple(range(count))):
                self.holds(formula)

    def test_each_bit_just_once(self):
        for word in GATES:
            self.misses((word, A, A))
            self.misses((word, A, ("not", A)))
            self.misses((word, B, B))
            self.misses((word, (word, A, B), A))
            self.misses((word, (word, A, B), B))
            self.misses((word, A, (word, C, C)))

    def test_bits_left_out(self):
        self.misses(B)
        self.misses(C)
        for word in GATES:
            self.misses((word, A, C))
            self.misses((word, B, C))
            self.misses((word, ("bit", 1), ("bit", 2)))
            self.misses((word, (word, A, B), ("bit", 3)))
            self.misses((word, (word, A, C), ("bit", 3)))
            self.misses((word, (word, A, B), ("bit", -1)))
            self.misses((word, A, ("bit", -1)))

    def test_bits_that_are_truths(self):
        for word in GATES:
            self.misses((word, A, ("bit", True)))
            self.misses((word, ("bit", False), B))

    def test_more_than_three_bits(self):
        for word in GATES:
            self.misses((word, (word, A, B), (word, C, ("bit", 3))))
            self.misses((word, A, (word, B, (word, C, ("bit", 3)))))
            self.misses((word, (word, (word, A, B), C), ("bit", 3)))
        long = ("bit", 0)
        for number in range(1, 19):
            long = ("any", long, ("bit", number))
        self.misses(long)

    def test_parts_fewer_or_more(self):
        for word in GATES:
            self.misses((word, A))
            self.misses((word, A, B, C))
            self.misses((word, A, B, ()))
            self.misses((word,))
            self.misses((word, (A, B)))
        self.misses(("not", A, B))
        self.misses(("not",))

    def test_other_words(self):
        for word in ("ALL", "all ", "a", "", "nand", "bit", "not", None, 1, True, ("all",), ["all"], {}):
            self.misses((word, A, B))

    def test_lists_for_tuples(self):
        for word in GATES:
            self.misses([word, A, B])
            self.misses((word, ["bit", 0], B))
            self.misses((word, A, ["bit", 1]))
            self.misses((word, [A, B]))
            self.misses(([word], A, B))

    def test_twenty_within_one_another(self):
        self.holds(nots(19, A))
        self.misses(nots(20, A))
        for word in GATES:
            self.holds(nots(18, (word, A, B)))
            self.misses(nots(19, (word, A, B)))
            self.holds((word, nots(18, A), B))
            self.misses((word, nots(19, A), B))
            self.holds((word, A, nots(18, B)))
            self.misses((word, A, nots(19, B)))
            self.holds((word, nots(18, A), (word, nots(17, B), nots(17, C))))
            self.misses((word, nots(18, A), (word, nots(18, B), nots(17, C))))

    def test_one_tuple_at_very_many_places(self):
        thing = A
        for step in range(59):
            thing = ("all", thing, thing)
        self.misses(thing)
        self.misses(("all", thing, B))

    def test_sixty_deep(self):
        for kind in range(3):
            thing = 0
            for step in range(59):
                thing = ((thing,), [thing], {"a": thing})[(step + kind) % 3]
            self.misses(thing)
            self.misses(("not", thing))
            self.misses(("bit", thing))
            self.misses(("all", A, thing))
        self.misses(nots(59, A))

    def test_lists_stay(self):
        part = ["bit", 1]
        self.misses(("all", A, part))
        self.assertEqual(part, ["bit", 1])

    def test_asked_again(self):
        for step in range(2):
            self.holds(("all", A, B))
            self.misses(("all", A, A))


class Worth(unittest.TestCase):

    def check(self, formula, bits, due):
        told = worth(formula, bits)
        self.assertEqual(told, due, (formula, bits))
        self.assertIs(type(told), int)

    def test_by_hand(self):
        for bit in (0, 1):
            self.check(A, (bit,), bit)
            self.check(("not", A), (bit,), 1 - bit)
            self.check(nots(19, A), (bit,), 1 - bit)
            self.check(nots(18, A), (bit,), bit)
        for word, dues in (("all", (0, 0, 0, 1)), ("any", (0, 1, 1, 1)), ("one", (0, 1, 1, 0))):
            for bits, due in zip(product((0, 1), repeat=2), dues):
                self.check((word, A, B), bits, due)
                self.check((word, B, A), bits, due)
                self.check(("not", (word, A, B)), bits, 1 - due)

    def test_each_bit_by_its_number(self):
        formula = ("all", C, ("all", ("not", A), ("not", B)))
        for bits in product((0, 1), repeat=3):
            self.check(formula, bits, 1 if bits == (0, 0, 1) else 0)

    def test_by_all_bits(self):
        for count in (1, 2, 3):
            for formula in gates_over(tuple(range(count))):
                for each in with_nots(formula):
                    for bits in product((0, 1), repeat=count):
                        self.check(each, bits, int(plain_worth(each, bits)))

    def test_no_formula(self):
        for thing in NO_FORMULAS + (nots(20, A), ("all", A, A), ("any", A, C), ("one", [A], B)):
            for bits in ((), (0,), (1, 1), (0, 1, 0)):
                with self.assertRaises(CardError) as taken:
                    worth(thing, bits)
                self.assertIs(type(taken.exception), NoFormula)


class RowOf(unittest.TestCase):

    def test_by_hand(self):
        self.assertEqual(row_of((0,)), (0, 1, 0, 1))
        self.assertEqual(row_of((1,)), (1, 0, 0, 1))
        self.assertEqual(row_of((1, 0)), (1, 0, 0, 1, 0, 1))
        self.assertEqual(row_of((0, 1, 1)), (0, 1, 1, 0, 1, 0, 0, 1))

    def test_all_bits(self):
        for count in (1, 2, 3):
            for bits in product((0, 1), repeat=count):
                row = row_of(bits)
                self.assertIs(is_row(row), True)
                self.assertEqual((row[::2], row[1::2]), (bits + (0,), tuple([1 - bit for bit in bits]) + (1,)))


class PlanOf(unittest.TestCase):

    def check(self, formula, count):
        plan = plan_of(formula)
        self.assertIs(is_plan(plan, 2 * count + 2), True)
        self.assertLessEqual(plans_in(plan), 40)
        self.assertNotIn("again", forms_in(plan))
        deals = []
        for bits in product((0, 1), repeat=count):
            due = int(plain_worth(formula, bits))
            deals.append((row_of(bits), (due, 1 - due)))
        self.assertEqual(judged(plan, deals), ("right",), formula)
        self.assertEqual(quiet(plan, [row for row, due in deals]), ("quiet",), formula)

    def test_few_nots(self):
        for count in (1, 2, 3):
            for formula in gates_over(tuple(range(count))):
                for each in with_nots(formula):
                    self.check(each, count)

    def test_many_nots(self):
        source = Random(63)
        self.check(nots(19, A), 1)
        self.check(nots(18, A), 1)
        for word in GATES:
            self.check((word, nots(18, A), nots(17, B)), 2)
            self.check(nots(17, (word, nots(1, B), A)), 2)
        for formula in gates_over((0, 1, 2)):
            parts = [nots(source.randint(0, 6), part) for part in formula[1:]]
            if formula[1][0] != "bit":
                parts[0] = nots(source.randint(0, 6), (
                    formula[1][0], nots(source.randint(5, 6), formula[1][1]), nots(source.randint(0, 6), formula[1][2])))
            self.check(nots(source.randint(0, 5), (formula[0], parts[0], parts[1])), 3)

    def test_no_formula(self):
        for thing in NO_FORMULAS + (nots(20, A), ("all", A, A), ("any", A, C), ("one", [A], B)):
            with self.assertRaises(CardError) as taken:
                plan_of(thing)
            self.assertIs(type(taken.exception), NoFormula)

    def test_asked_again(self):
        formula = ("any", ("one", C, A), ("not", B))
        self.assertEqual(plan_of(formula), plan_of(formula))


if __name__ == "__main__":
    unittest.main()
