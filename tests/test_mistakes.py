import itertools
import random
import unittest

from oracles import lively_spec, random_lasso, random_spec, slow_satisfies
from promiseplay.faults import true_word
from promiseplay.inclusion import contained_guesses, contained_states, hopeful_states, marked_nodes, ranks_with
from promiseplay.mistakes import bearing_judge
from test_conditions import judged


class Table:
    """Rows and ranks from one of the states on, or those of a guess there."""

    def __init__(self, rows, ranks, state):
        self.rows = rows
        self.ranks = ranks
        self.state = state

    def seen(self, lasso):
        """All ranks on a word, and the greatest that occurs again and again."""
        head, loop = lasso
        state = self.state
        told = []
        for letter in list(head) + list(loop) * 2 * len(self.rows):
            told.append(self.ranks[state][letter])
            state = self.rows[state][letter]
        return max(told), max(told[-len(loop) * len(self.rows):])


def random_table(chance, states, letters):
    rows = [[chance.randrange(states) for _ in range(letters)] for _ in range(states)]
    return rows, [[chance.randrange(5) for _ in range(letters)] for _ in range(states)]


class Inclusion(unittest.TestCase):
    def setUp(self):
        self.words = [(head, loop) for length in range(3) for head in itertools.product(range(2), repeat=length)
                      for size in range(1, 5) for loop in itertools.product(range(2), repeat=size)]

    def test_marks(self):
        self.assertEqual(marked_nodes([[(1, True, False)], [(0, False, True)], [(2, True, False), (0, True, True)]]), [0, 1])
        self.assertEqual(marked_nodes([[(0, True, True)], [(0, True, True)], []]), [0])
        self.assertEqual(ranks_with([[3, 0], [2, 2]], 0), [0, 2])
        self.assertEqual(ranks_with([[3, 0], [2, 2]], 1), [3])

    def test_states(self):
        chance = random.Random(1)
        told = {True: 0, False: 0}
        for _ in range(60):
            rows, ranks = random_table(chance, 3, 2)
            contained = contained_states(rows, ranks)
            accepted = [{word for word in self.words if Table(rows, ranks, state).seen(word)[1] % 2 == 0} for state in range(3)]
            for one, other in itertools.product(range(3), repeat=2):
                # With three states and two letters, short words tell almost all states apart.
                if contained[one][other]:
                    self.assertLessEqual(accepted[one], accepted[other])
                told[contained[one][other] == (accepted[one] <= accepted[other])] += 1
        self.assertGreater(told[True], 20 * told[False])

    def test_guesses(self):
        chance = random.Random(2)
        told = {True: 0, False: 0}
        for _ in range(40):
            rows, ranks = random_table(chance, 3, 2)
            accepted = {}
            for most in [0, 2, 4]:
                for state in range(3):
                    table = Table(rows, ranks, state)
                    accepted[most, state] = {word for word in self.words if table.seen(word) == (most, most)}
                hopeful = hopeful_states(rows, ranks, most, [False] * 3)
                for state in range(3):
                    if accepted[most, state]:
                        self.assertTrue(hopeful[state])
            for most, limit in itertools.product([0, 2, 4], repeat=2):
                contained = contained_guesses(rows, ranks, most, limit)
                for one, other in itertools.product(range(3), repeat=2):
                    if contained[one][other]:
                        self.assertLessEqual(accepted[most, one], accepted[limit, other])
                    told[contained[one][other] == (accepted[most, one] <= accepted[limit, other])] += 1
        self.assertGreater(told[True], 20 * told[False])

    def test_hopeful_states(self):
        rows, ranks = [[1, 0], [1, 1]], [[0, 1], [2, 2]]
        self.assertEqual(hopeful_states(rows, ranks, 2, [False, False]), [True, True])
        self.assertEqual(hopeful_states(rows, ranks, 2, [False, True]), [False, False])
        self.assertEqual(hopeful_states(rows, ranks, 0, [False, False]), [False, False])


class Mistaken(unittest.TestCase):
    def changed(self, lasso, inputs, k, turns):
        """All words with other inputs in at most k of the first turns."""
        head, loop = lasso
        longer = list(head) + list(loop) * turns
        for where in itertools.combinations(range(turns), k):
            for heard in itertools.product(range(inputs), repeat=k):
                word = list(longer)
                for turn, letter in zip(where, heard):
                    word[turn] = word[turn] - word[turn] % inputs + letter
                yield tuple(word), loop

    def test_words(self):
        chance = random.Random(3)
        told = {True: 0, False: 0}
        for number in range(150):
            spec = lively_spec(chance, inputs=1, outputs=1) if number % 2 else random_spec(chance, signals=1)
            inputs = 1 << len(spec.inputs)
            k = chance.randint(0, 2)
            judge = bearing_judge(spec, k)
            for _ in range(4):
                lasso = random_lasso(chance, 1 << len(spec.signals), 2, 3)
                borne = judged(judge, lasso)
                told[borne] += 1
                self.assertIs(borne, true_word(spec, lasso, k) is None)
                if borne:
                    for word in self.changed(lasso, inputs, k, 6):
                        self.assertTrue(slow_satisfies(spec, word))
        self.assertGreater(min(told.values()), 100)

    def test_few_states(self):
        chance = random.Random(4)
        for _ in range(100):
            spec = lively_spec(chance)
            counts = [len(bearing_judge(spec, k).rows) for k in range(4)]
            self.assertLess(max(counts), 600)


if __name__ == "__main__":
    unittest.main()
