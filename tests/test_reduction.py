import random
import unittest

from oracles import random_automaton, random_lasso, slow_accepts
from promiseplay.buchi import Automaton
from promiseplay.reduction import smaller


class Smaller(unittest.TestCase):
    def test_words_and_size(self):
        chance = random.Random(44)
        fewer = 0
        for _ in range(500):
            letters, initial, accepting, rows = random_automaton(chance, 6, 3)
            found = smaller(Automaton(letters, initial, accepting, rows))
            self.assertEqual(found.letters, letters)
            self.assertLessEqual(len(found.rows), len(rows))
            fewer += len(found.rows) < len(rows)
            for _ in range(8):
                lasso = random_lasso(chance, letters)
                self.assertEqual(slow_accepts(found.rows, found.initial, found.accepting, lasso),
                                 slow_accepts(rows, initial, accepting, lasso))
        self.assertGreater(fewer, 100)
