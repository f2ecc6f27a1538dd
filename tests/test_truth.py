import random
import unittest

from oracles import ONE, TWO, letters_of, random_formula, random_lasso, slow_holds, slow_normal
from promiseplay.errors import InvalidLetter, InvalidTurn
from promiseplay.truth import holds, truth_word
from promiseplay.words import make_lasso

A, B = ("signal", "a"), ("signal", "b")
NAMES = ["a", "b"]
SIX = ["a", "b", "c", "d", "e", "f"]


class TruthWord(unittest.TestCase):
    def check(self, formula, names, lasso, turns=14):
        found = truth_word(formula, names, lasso)
        self.assertEqual(found, make_lasso(list(found[0]), list(found[1])))
        wanted = [int(slow_holds(formula, names, lasso, turn)) for turn in range(turns)]
        self.assertEqual(letters_of(found, turns), wanted, (formula, lasso))
        for turn in (0, 1, turns - 1):
            self.assertIs(holds(formula, names, lasso, turn=turn), wanted[turn] == 1)
        self.assertIs(holds(formula, names, lasso), wanted[0] == 1)

    def test_examples(self):
        self.assertEqual(truth_word(("once", A), ["a"], ((0, 0), (1, 0))), ((0, 0), (1,)))
        self.assertIs(holds(("always", ("eventually", A)), ["a"], ((1, 1), (0,))), False)

    def test_each_operator_alone(self):
        chance = random.Random(13)
        formulas = [("true",), ("false",), A]
        formulas += [(operator, A) for operator in ONE] + [(operator, A, B) for operator in TWO]
        for formula in formulas:
            for _ in range(40):
                self.check(formula, NAMES, random_lasso(chance, 4))

    def test_each_operator_in_each(self):
        chance = random.Random(14)
        outer = [(operator, None) for operator in ONE] + [(operator, None, B) for operator in TWO]
        outer += [(operator, A, None) for operator in TWO]
        inner = [(operator, B) for operator in ONE] + [(operator, A, B) for operator in TWO]
        for frame in outer:
            for part in inner:
                formula = tuple(part if item is None else item for item in frame)
                for _ in range(4):
                    self.check(formula, NAMES, random_lasso(chance, 4))

    def test_random_formulas(self):
        chance = random.Random(15)
        for _ in range(400):
            names = SIX[:chance.randint(0, 3)]
            self.check(random_formula(chance, names, 8, 4, 7), names, random_lasso(chance, 1 << len(names)))

    def test_lassos_in_any_form(self):
        formula = ("since", ("previous", A), ("next", ("historically", B)))
        wanted = truth_word(formula, NAMES, ((3, 1), (2, 3)))
        for lasso in [((3, 1, 2, 3), (2, 3)), ((3, 1, 2), (3, 2)), ((3, 1), (2, 3, 2, 3)), ((3, 1, 2), (3, 2) * 4)]:
            self.assertEqual(truth_word(formula, NAMES, lasso), wanted)

    def test_the_past_at_turn_0(self):
        for operator, wanted in [("previous", False), ("weak_previous", True), ("once", True), ("historically", True)]:
            self.assertIs(holds((operator, A), ["a"], ((), (1,))), wanted)
        self.assertIs(holds(("weak_previous", ("false",)), [], ((), (0,))), True)
        self.assertIs(holds(("weak_previous", ("false",)), [], ((), (0,)), turn=1), False)
        self.assertEqual(truth_word(("previous", ("true",)), [], ((), (0, 0))), ((0,), (1,)))

    def test_the_past_in_the_loop(self):
        # Each further operator of the past delays the truth by one more turn.
        formula = A
        for _ in range(8):
            formula = ("previous", formula)
        self.assertEqual(truth_word(formula, ["a"], ((1,), (0,))), ((0,) * 8 + (1,), (0,)))
        nested = ("once", ("and", ("once", A), ("not", A)))
        self.assertEqual(truth_word(nested, ["a"], ((), (1, 0))), ((0,), (1,)))
        self.assertEqual(truth_word(("historically", A), ["a"], ((), (1, 1, 0))), ((1, 1), (0,)))

    def test_late_turns(self):
        lasso = ((0,) * 20, (1, 0, 0))
        for turn in (0, 20, 998, 999, 1000):
            self.assertIs(holds(A, ["a"], lasso, turn=turn), turn >= 20 and (turn - 20) % 3 == 0)
            self.assertIs(holds(("once", A), ["a"], lasso, turn=turn), turn >= 20)
            self.assertIs(holds(("since", ("not", A), ("weak_previous", ("false",))), ["a"], lasso, turn=turn), turn < 20)

    def test_six_signals(self):
        for number, name in enumerate(SIX):
            for letter in (0, 63, 1 << number, 63 ^ 1 << number):
                self.assertIs(holds(("signal", name), SIX, ((), (letter,))), letter >> number & 1 == 1)
        chance = random.Random(16)
        for _ in range(60):
            self.check(random_formula(chance, SIX, 8, 6, 8), SIX, random_lasso(chance, 64))

    def test_order_of_the_signals(self):
        self.assertIs(holds(A, ["b", "a"], ((), (2,))), True)
        self.assertIs(holds(A, ["b", "a"], ((), (1,))), False)
        self.assertIs(holds(A, ("b", "a"), ((), (2,))), True)

    def test_bounds_of_formulas(self):
        deep = A
        for k in range(99):
            deep = ("not", deep) if k % 12 else ("previous", deep)
        self.check(deep, ["a"], ((1, 0), (0, 1, 1)))
        wide = A
        for k in range(6):
            wide = ("iff", wide, ("next", B)) if k % 2 else ("weak_until", wide, B)
        self.check(("since", ("until", A, wide), wide), NAMES, ((1, 2), (3, 0, 1)))

    def test_many_parts(self):
        def balanced(level, number):
            if level == 0:
                return A if number % 3 else B
            operator = ["and", "or", "implies"][level % 3]
            return (operator, balanced(level - 1, 2 * number), balanced(level - 1, 2 * number + 1))

        many = balanced(8, 1)
        for _ in range(80):
            many = ("not", many)
        for operator in ("once", "next", "historically", "eventually", "previous", "always", "since"):
            many = (operator, many) if operator != "since" else (operator, many, balanced(7, 5))
        self.check(many, NAMES, ((1, 2, 0), (3, 1, 0, 2)))

    def test_names_stay(self):
        names = ["a"]
        holds(("exists", ("h",), A), names, ((), (1,)))
        self.assertEqual(names, ["a"])


class Errors(unittest.TestCase):
    def test_letters(self):
        for lasso in [((), (2,)), ((2,), (0,)), ((0,), (0, 9))]:
            with self.assertRaises(InvalidLetter):
                holds(A, ["a"], lasso)
            with self.assertRaises(InvalidLetter):
                truth_word(A, ["a"], lasso)
            with self.assertRaises(InvalidLetter):
                holds(("exists", ("h",), A), ["a"], lasso)
        with self.assertRaises(InvalidLetter):
            truth_word(("true",), [], ((), (1,)))

    def test_turns_come_first(self):
        for lasso in [((), (2,)), ((), (1,))]:
            for prop in (A, ("forall", ("h",), A)):
                with self.assertRaises(InvalidTurn):
                    holds(prop, ["a"], lasso, turn=-1)
