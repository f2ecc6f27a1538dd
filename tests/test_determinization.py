import random
import unittest

from oracles import random_automaton, random_lasso, slow_accepts, slow_accepts_parity
from promiseplay.buchi import Automaton
from promiseplay.determinization import determinize
from promiseplay.parity import ParityAutomaton
from promiseplay.translation import translate


class Determinization(unittest.TestCase):
    def check(self, arguments, chance, words=12):
        parity = determinize(Automaton(*arguments))
        self.assertIsInstance(parity, ParityAutomaton)
        self.assertEqual(parity.letters, arguments[0])
        self.assertLessEqual(max(parity.priorities), 4 * len(arguments[3]) + 4)
        found = {parity.start}
        waiting = [parity.start]
        while waiting:
            for target in parity.rows[waiting.pop()]:
                if target not in found:
                    found.add(target)
                    waiting.append(target)
        self.assertEqual(len(found), len(parity.rows))
        for _ in range(words):
            lasso = random_lasso(chance, arguments[0])
            self.assertEqual(slow_accepts_parity(parity.start, parity.priorities, parity.rows, lasso),
                             slow_accepts(arguments[3], arguments[1], arguments[2], lasso), (arguments, lasso))

    def test_random_automata(self):
        chance = random.Random(21)
        for _ in range(400):
            self.check(random_automaton(chance), chance)
        for _ in range(60):
            self.check(random_automaton(chance, 7, 3), chance, 6)

    def test_edges(self):
        chance = random.Random(22)
        everywhere = [[[0, 1], [0, 1]], [[0, 1], [0, 1]]]
        for arguments in [
                (2, [], [0, 1], everywhere), (2, [0, 1], [], everywhere), (2, [0, 1], [0, 1], everywhere),
                (2, [0], [1], everywhere), (2, [0], [0], [[[], []]]), (2, [0], [1], [[[0], [1]], [[], []]]),
                (2, [0], [0, 1], [[[0], [1]], [[], [1]]]), (1, [0], [0], [[[0]]]), (2, [0], [1], [[[0], [0, 1]], [[], [1]]]),
                (2, [0, 1], [1], [[[0, 1], [0]], [[], [0]]])]:
            self.check(arguments, chance, 30)

    def test_michel(self):
        # Automata that need many states when they are made deterministic.
        chance = random.Random(23)
        for n in (2, 3):
            letters = n + 1
            rows = [[[k, n] if a == k else [k] for a in range(letters)] for k in range(n)]
            rows.append([[a] if a < n else [n] for a in range(letters)])
            self.check((letters, list(range(n)), [n], rows), chance, 60)

    def test_many_letters(self):
        chance = random.Random(24)
        names = ["a", "b", "c", "d", "e", "f"]
        formula = ("implies", ("always", ("eventually", ("signal", "a"))), ("always", ("implies", (
            "and", ("signal", "b"), ("signal", "c")), ("until", ("signal", "d"), ("or", ("signal", "e"), ("signal", "f"))))))
        automaton = translate(formula, names)
        self.check((64, automaton.initial, automaton.accepting, automaton.rows), chance, 40)

    def test_equal_calls(self):
        chance = random.Random(25)
        for _ in range(20):
            arguments = random_automaton(chance)
            first, second = determinize(Automaton(*arguments)), determinize(Automaton(*arguments))
            self.assertEqual(vars(first), vars(second))
