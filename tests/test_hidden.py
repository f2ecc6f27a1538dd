import itertools
import random
import unittest

from oracles import random_formula, random_lasso, slow_holds
from promiseplay.buchi import Automaton, find_word
from promiseplay.operations import intersection, widen
from promiseplay.translation import translate
from promiseplay.truth import holds
from promiseplay.words import combine, make_lasso, relabel

A, H, K, M = [("signal", name) for name in "ahkm"]


def both(*parts):
    formula = parts[0]
    for part in parts[1:]:
        formula = ("and", formula, part)
    return formula


def always_iff(first, second):
    return ("always", ("iff", first, second))


# The hidden signal h is true at the even turns.
EVEN = both(H, always_iff(H, ("not", ("next", H))))


def only_this_word(lasso, letters):
    """An automaton that accepts the word of a lasso alone."""
    head, loop = lasso
    word = list(head) + list(loop)
    rows = []
    for k, letter in enumerate(word):
        later = k + 1 if k + 1 < len(word) else len(head)
        rows.append([[later] if a == letter else [] for a in range(letters)])
    return Automaton(letters, [0], list(range(len(word))), rows)


class KnownAnswers(unittest.TestCase):
    def test_counting_turns(self):
        at_even = ("exists", ("h",), both(EVEN, ("always", ("implies", H, A))))
        for lasso, wanted in [(((), (1, 0)), True), (((), (0, 1)), False), (((), (1,)), True), (((1, 0), (1, 1, 0)), False),
                              (((1, 0, 1), (0, 1)), True), (((), (1, 0, 0)), False)]:
            self.assertIs(holds(at_even, ["a"], lasso), wanted)

    def test_all_values(self):
        at_odd = ("forall", ("h",), ("implies", EVEN, ("always", ("or", H, A))))
        for lasso, wanted in [(((), (1, 0)), False), (((), (0, 1)), True), (((), (1,)), True), (((0,), (1, 1, 0)), False)]:
            self.assertIs(holds(at_odd, ["a"], lasso), wanted)

    def test_turns_above_0(self):
        # At the turn, h was true at all earlier turns and is false from there on.
        split = both(("historically", H), ("next", ("always", ("not", H))))
        once = ("exists", ("h",), both(split, ("once", both(H, A)), ("next", ("always", ("or", H, ("not", A))))))
        for turn in range(6):
            self.assertIs(holds(once, ["a"], ((0, 0, 1), (0,)), turn=turn), turn >= 2)
            self.assertIs(holds(once, ["a"], ((0, 0), (1,)), turn=turn), False)
        # Counting from turn 0, not from the turn at which the property is true.
        even_now = ("exists", ("h",), both(H, ("historically", ("implies", ("previous", ("true",)), (
            "iff", H, ("not", ("previous", H))))), ("once", both(("weak_previous", ("false",)), H))))
        for turn in (0, 1, 2, 3, 4, 999, 1000):
            self.assertIs(holds(even_now, [], ((), (0,)), turn=turn), turn % 2 == 0)

    def test_no_signals(self):
        self.assertIs(holds(("exists", ("h",), EVEN), [], ((), (0,))), True)
        self.assertIs(holds(("forall", ("h",), EVEN), [], ((), (0,))), False)
        self.assertIs(holds(("exists", ("h",), both(H, ("not", H))), [], ((), (0, 0))), False)
        self.assertIs(holds(("forall", ("h",), ("or", H, ("not", H))), [], ((0,), (0,))), True)

    def test_hidden_names_that_do_not_occur(self):
        for word in ("exists", "forall"):
            for hidden in (("h",), ("h", "k"), ("h", "k", "m")):
                for lasso in (((), (1,)), ((), (0, 1))):
                    self.assertIs(holds((word, hidden, ("once", A)), ["a"], lasso, turn=3), True)
                    self.assertIs(holds((word, hidden, ("always", A)), ["a"], lasso), lasso == ((), (1,)))

    def test_order_of_hidden_names(self):
        formula = both(("next", H), ("not", K), ("always", ("implies", M, A)), ("eventually", M))
        for hidden in itertools.permutations("hkm"):
            self.assertIs(holds(("exists", hidden, formula), ["a"], ((), (0, 1))), True)
            self.assertIs(holds(("exists", hidden, formula), ["a"], ((), (0,))), False)

    def test_three_hidden_names_count_to_eight(self):
        counter = both(
            ("not", H), ("not", K), ("not", M), always_iff(H, ("not", ("next", H))),
            always_iff(("iff", K, ("next", K)), ("not", H)),
            always_iff(("iff", M, ("next", M)), ("not", both(H, K))))
        prop = ("exists", ("h", "k", "m"), both(counter, ("always", ("implies", both(H, K, M), A))))
        self.assertIs(holds(prop, ["a"], ((), (0,) * 7 + (1,))), True)
        self.assertIs(holds(prop, ["a"], ((), (0,) * 6 + (1,))), False)
        self.assertIs(holds(prop, ["a"], ((0,) * 7 + (1,), (0,) * 7 + (1,) + (0,) * 8)), False)

    def test_past_over_hidden_signals(self):
        # h marks one turn, and a is true exactly before it.
        prop = ("exists", ("h",), both(("eventually", H), always_iff(A, ("not", ("once", H)))))
        self.assertIs(holds(prop, ["a"], ((1, 1), (0,))), True)
        self.assertIs(holds(prop, ["a"], ((1, 0, 1), (0,))), False)
        self.assertIs(holds(prop, ["a"], ((), (1,))), False)
        since = ("forall", ("h",), ("eventually", ("implies", ("since", A, H), ("trigger", H, ("true",)))))
        self.assertIs(holds(since, ["a"], ((), (0, 1))), True)


class AgainstWitnesses(unittest.TestCase):
    def test_random_properties(self):
        chance = random.Random(17)
        truths = {True: 0, False: 0}
        for _ in range(350):
            names = ["a", "b"][:chance.randint(0, 2)]
            hidden = tuple("hkm"[:chance.randint(1, 3)])
            formula = random_formula(chance, names + list(hidden), chance.randint(1, 6), 2, 5)
            lasso = random_lasso(chance, 1 << len(names))
            turn = chance.choice([0, 0, 1, 2, 5])
            word = chance.choice(["exists", "forall"])
            found = holds((word, hidden, formula), names, lasso, turn=turn)
            truths[found] += 1
            sought = formula if word == "exists" else ("not", formula)
            witness = self.witness(sought, names, hidden, lasso, turn)
            self.assertIs(found, (witness is not None) == (word == "exists"), (word, hidden, formula, lasso, turn))
            together = names + list(hidden)
            if witness is not None:
                table = [letter % (1 << len(names)) for letter in range(1 << len(together))]
                self.assertEqual(relabel(witness, table), make_lasso(*lasso))
                self.assertTrue(slow_holds(sought, together, witness, turn))
            else:
                for _ in range(6):
                    values = random_lasso(chance, 1 << len(hidden), 3, 3)
                    self.assertFalse(slow_holds(sought, together, combine(lasso, values, 1 << len(names)), turn))
        self.assertGreater(min(truths.values()), 50)

    def witness(self, formula, names, hidden, lasso, turn):
        """The word with values of the hidden signals that make the formula true at the turn, or None."""
        for _ in range(turn):
            formula = ("next", formula)
        given = widen(only_this_word(lasso, 1 << len(names)), 1 << len(names) + len(hidden))
        return find_word(intersection(translate(formula, names + list(hidden)), given))
