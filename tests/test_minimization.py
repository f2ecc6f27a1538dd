import itertools
import random
import unittest

from oracles import random_machine, slow_emitted
from promiseplay.errors import Mismatch
from promiseplay.machines import Machine
from promiseplay.minimization import minimize, separating_word


def parts(machine):
    return machine.inputs, machine.outputs, machine.lead, machine.opening, machine.rows


def slow_minimized(machine):
    """The rows of the minimized machine: states are told apart by what they emit for all words of their number."""
    n = len(machine.rows)

    def behaviour(state, depth):
        if depth == 0:
            return ()
        return tuple((letter, behaviour(target, depth - 1)) for target, letter in machine.rows[state])

    known = {state: behaviour(state, n) for state in range(n)}
    order = [0]
    numbers = {known[0]: 0}
    rows = []
    while len(rows) < len(order):
        row = []
        for target, letter in machine.rows[order[len(rows)]]:
            if known[target] not in numbers:
                numbers[known[target]] = len(order)
                order.append(target)
            row.append((numbers[known[target]], letter))
        rows.append(tuple(row))
    return tuple(rows)


def slow_separating(first, second, most):
    """The first shortest list with different last letters, by trying all lists in their order."""
    if first.opening != second.opening:
        return []
    for size in range(1, most + 1):
        for word in itertools.product(range(first.inputs), repeat=size):
            if slow_emitted(first, word)[-1] != slow_emitted(second, word)[-1]:
                return list(word)
    return None


class Minimizing(unittest.TestCase):
    def test_alike_states_and_states_that_are_not_reached(self):
        rows = [[(2, 0), (1, 1)], [(1, 0), (2, 0)], [(2, 0), (1, 0)], [(0, 1), (0, 1)]]
        self.assertEqual(parts(minimize(Machine(2, 2, 0, [], rows))), (2, 2, 0, (), (((1, 0), (1, 1)), ((1, 0), (1, 0)))))

    def test_numbering(self):
        # From state 0 the letter 0 leads to state 2, so that is number 1.
        rows = [[(2, 0), (1, 0)], [(1, 1), (0, 0)], [(0, 0), (2, 1)]]
        self.assertEqual(minimize(Machine(2, 2, 0, [], rows)).rows, (((1, 0), (2, 0)), ((0, 0), (1, 1)), ((2, 1), (0, 0))))

    def test_letters_that_are_never_said_count(self):
        # With lead 2 what is emitted in the first two turns is not said, but makes machines different.
        rows = [[(1, 1)], [(1, 0)]]
        self.assertEqual(len(minimize(Machine(1, 2, 2, [], rows)).rows), 2)

    def test_the_rest_stays(self):
        for lead in range(-3, 3):
            opening = [1, 0, 1][:max(0, -lead)]
            machine = minimize(Machine(1, 2, lead, opening, [[(1, 0)], [(0, 0)]]))
            self.assertEqual(parts(machine), (1, 2, lead, tuple(opening), (((0, 0),),)))

    def test_against_behaviour(self):
        chance = random.Random(1)
        for _ in range(200):
            machine = random_machine(chance, chance.randint(1, 2), chance.randint(1, 2), chance.randint(-3, 2), 6)
            before = parts(machine)
            found = minimize(machine)
            self.assertEqual(found.rows, slow_minimized(machine))
            self.assertEqual(parts(found)[:4], before[:4])
            self.assertEqual(parts(minimize(found)), parts(found))
            self.assertEqual(parts(machine), before)
            self.assertIsNone(separating_word(machine, found))

    def test_alike_machines_have_equal_results(self):
        chance = random.Random(2)
        for _ in range(60):
            machine = random_machine(chance, 2, 2, 0, 4)
            n = len(machine.rows)
            order = [0] + chance.sample(range(1, n), n - 1)
            place = {old: new for new, old in enumerate(order)}
            # Each state a second time, the copies leading to either.
            rows = [[(place[t] + n * chance.randint(0, 1), a) for t, a in machine.rows[order[k % n]]] for k in range(2 * n)]
            self.assertEqual(parts(minimize(Machine(2, 2, 0, [], rows))), parts(minimize(machine)))


class Separating(unittest.TestCase):
    def test_first_shortest_word(self):
        first = Machine(2, 2, 0, [], [[(1, 0), (1, 0)], [(1, 0), (1, 0)]])
        second = Machine(2, 2, 0, [], [[(1, 0), (2, 0)], [(1, 0), (1, 1)], [(1, 1), (1, 0)]])
        self.assertEqual(separating_word(first, second), [0, 1])
        self.assertEqual(separating_word(second, first), [0, 1])

    def test_openings(self):
        rows = [[(0, 0), (0, 1)]]
        self.assertEqual(separating_word(Machine(2, 2, -1, [0], rows), Machine(2, 2, -1, [1], rows)), [])
        self.assertEqual(separating_word(Machine(2, 2, -1, [0], rows), Machine(2, 2, -1, [1], [[(0, 1), (0, 1)]])), [])
        self.assertIsNone(separating_word(Machine(2, 2, -1, [1], rows), Machine(2, 2, -1, [1], rows)))

    def test_against_all_words(self):
        chance = random.Random(3)
        alike = 0
        for k in range(200):
            p = chance.randint(1, 2)
            first = random_machine(chance, p, 2, 0, 3)
            second = random_machine(chance, p, 2, 0, 3) if k % 2 else minimize(first)
            if k % 4 == 0:
                row = list(second.rows[-1])
                row[-1] = (row[-1][0], 1 - row[-1][1])
                second = Machine(p, 2, 0, [], list(second.rows[:-1]) + [row])
            found = separating_word(first, second)
            self.assertEqual(found, slow_separating(first, second, 6))
            alike += found is None
            self.assertEqual(separating_word(second, first), found)
        self.assertGreater(alike, 40)
        self.assertLess(alike, 160)

    def test_long_words(self):
        # Two counters, of 7 and of 8, are first told apart when the shorter one comes round.
        def counter(n):
            return Machine(1, 2, 0, [], [[((k + 1) % n, 1 if k == n - 1 else 0)] for k in range(n)])
        self.assertEqual(separating_word(counter(7), counter(8)), [0] * 7)
        self.assertEqual(separating_word(counter(3), counter(3)), None)

    def test_what_does_not_fit(self):
        machine = Machine(2, 2, 0, [], [[(0, 0), (0, 1)]])
        for other in [Machine(1, 2, 0, [], [[(0, 0)]]), Machine(2, 3, 0, [], [[(0, 0), (0, 1)]]),
                      Machine(2, 2, 1, [], [[(0, 0), (0, 1)]]), Machine(2, 2, -1, [0], [[(0, 0), (0, 1)]])]:
            with self.assertRaises(Mismatch):
                separating_word(machine, other)
            with self.assertRaises(Mismatch):
                separating_word(other, machine)
