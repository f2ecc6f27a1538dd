import random
import unittest

from oracles import random_automaton, random_lasso, slow_accepts
from promiseplay.buchi import Automaton, accepts
from promiseplay.errors import Mismatch
from promiseplay.operations import hide, intersection, trim, union, widen


def pairs(chance, count, states=4):
    """Pairs of automata over the same letters."""
    found = []
    while len(found) < count:
        first, second = random_automaton(chance, states), random_automaton(chance, states)
        if first[0] == second[0]:
            found.append((Automaton(*first), Automaton(*second)))
    return found


def attributes(automaton):
    return automaton.letters, automaton.initial, automaton.accepting, automaton.rows


def slow_trim(automaton):
    """The parts of the trimmed automaton by the words of the document."""
    letters, initial, accepting, rows = attributes(automaton)
    n = len(rows)
    steps = [[any(t in entry for entry in rows[s]) for t in range(n)] for s in range(n)]
    paths = [row[:] for row in steps]
    for k in range(n):
        for s in range(n):
            for t in range(n):
                paths[s][t] = paths[s][t] or paths[s][k] and paths[k][t]
    reached = [s in initial or any(paths[i][s] for i in initial) for s in range(n)]
    good = [s for s in accepting if paths[s][s]]
    useful = [s for s in range(n) if reached[s] and any(s == t or paths[s][t] for t in good)]
    if not useful:
        return letters, (), (), (((),) * letters,)
    number = {s: k for k, s in enumerate(useful)}

    def kept(states):
        return tuple(number[s] for s in states if s in number)

    return letters, kept(initial), kept(accepting), tuple(tuple(kept(entry) for entry in rows[s]) for s in useful)


class Union(unittest.TestCase):
    def test_words_and_size(self):
        chance = random.Random(8)
        for first, second in pairs(chance, 200):
            both = union(first, second)
            self.assertLessEqual(len(both.rows), len(first.rows) + len(second.rows))
            self.assertEqual(both.letters, first.letters)
            for _ in range(8):
                lasso = random_lasso(chance, first.letters)
                self.assertEqual(accepts(both, lasso), accepts(first, lasso) or accepts(second, lasso))

    def test_mismatch(self):
        with self.assertRaises(Mismatch):
            union(Automaton(1, [], [], [[[]]]), Automaton(2, [], [], [[[], []]]))


class Intersection(unittest.TestCase):
    def test_words_and_size(self):
        chance = random.Random(9)
        for first, second in pairs(chance, 300):
            both = intersection(first, second)
            self.assertLessEqual(len(both.rows), 3 * len(first.rows) * len(second.rows))
            self.assertEqual(both.letters, first.letters)
            for _ in range(8):
                lasso = random_lasso(chance, first.letters)
                self.assertEqual(accepts(both, lasso), accepts(first, lasso) and accepts(second, lasso))

    def test_accepting_at_different_turns(self):
        even = Automaton(1, [0], [0], [[[1]], [[0]]])
        odd = Automaton(1, [0], [1], [[[1]], [[0]]])
        self.assertTrue(accepts(intersection(even, odd), ((), (0,))))
        never = Automaton(1, [0], [1], [[[0]], [[1]]])
        self.assertFalse(accepts(intersection(even, never), ((), (0,))))

    def test_nothing_initial(self):
        none = Automaton(2, [], [0], [[[0], [0]]])
        every = Automaton(2, [0], [0], [[[0], [0]]])
        for both in (intersection(none, every), intersection(every, none)):
            self.assertFalse(accepts(both, ((), (0, 1))))

    def test_mismatch(self):
        with self.assertRaises(Mismatch):
            intersection(Automaton(3, [], [], [[[], [], []]]), Automaton(2, [], [], [[[], []]]))


class Hide(unittest.TestCase):
    def test_words_and_size(self):
        chance = random.Random(10)
        for _ in range(200):
            automaton = Automaton(*random_automaton(chance, 4, 2))
            letters = automaton.letters
            factor = chance.randint(1, 3)
            rows = [[chance.choice(row) for _ in range(letters * factor)] for row in automaton.rows]
            wide = Automaton(letters * factor, automaton.initial, automaton.accepting, rows)
            hidden = hide(wide, letters)
            self.assertEqual(hidden.letters, letters)
            self.assertLessEqual(len(hidden.rows), len(wide.rows))
            merged = [[sorted({t for k in range(a, letters * factor, letters) for t in row[k]})
                       for a in range(letters)] for row in rows]
            for _ in range(6):
                lasso = random_lasso(chance, letters)
                wanted = slow_accepts(merged, wide.initial, wide.accepting, lasso)
                self.assertEqual(accepts(hidden, lasso), wanted)

    def test_a_small_one(self):
        wide = Automaton(6, [0], [0], [[[], [], [], [0], [], []]])
        for letters, good in [(3, 0), (2, 1), (1, 0), (6, 3)]:
            hidden = hide(wide, letters)
            for letter in range(letters):
                self.assertEqual(accepts(hidden, ((), (letter,))), letter == good)

    def test_mismatch(self):
        wide = Automaton(6, [0], [0], [[[], [], [], [0], [], []]])
        for letters in (0, -1, -2, 4, 5, 7, 12):
            with self.assertRaises(Mismatch):
                hide(wide, letters)


class Widen(unittest.TestCase):
    def test_words_and_size(self):
        chance = random.Random(11)
        for _ in range(200):
            automaton = Automaton(*random_automaton(chance, 4, 3))
            letters = automaton.letters * chance.randint(1, 3)
            wide = widen(automaton, letters)
            self.assertEqual(wide.letters, letters)
            self.assertLessEqual(len(wide.rows), len(automaton.rows))
            for _ in range(6):
                head, loop = random_lasso(chance, letters)
                small = tuple(tuple(a % automaton.letters for a in part) for part in (head, loop))
                self.assertEqual(accepts(wide, (head, loop)), accepts(automaton, small))

    def test_mismatch(self):
        automaton = Automaton(2, [], [], [[[], []]])
        for letters in (0, -1, -2, 1, 3, 5):
            with self.assertRaises(Mismatch):
                widen(automaton, letters)


class Trim(unittest.TestCase):
    def test_example(self):
        trimmed = trim(Automaton(1, [0, 1], [2], [[[1, 2]], [[]], [[2]]]))
        self.assertEqual((trimmed.initial, trimmed.accepting, trimmed.rows), ((0,), (1,), (((1,),), ((1,),))))

    def test_the_very_automaton(self):
        chance = random.Random(12)
        for _ in range(500):
            automaton = Automaton(*random_automaton(chance, 6, 3))
            self.assertEqual(attributes(trim(automaton)), slow_trim(automaton))

    def test_nothing_useful(self):
        for automaton in (Automaton(2, [], [0], [[[0], [0]]]), Automaton(2, [0], [], [[[0], [0]]] * 2),
                          Automaton(2, [0], [0], [[[], []]]), Automaton(2, [0], [1], [[[1], [1]], [[], []]])):
            self.assertEqual(attributes(trim(automaton)), (2, (), (), (((), ()),)))

    def test_useful_states_that_accept_once(self):
        automaton = Automaton(1, [0], [0, 1], [[[1]], [[1]]])
        self.assertEqual(attributes(trim(automaton)), attributes(automaton))

    def test_arguments_stay(self):
        automaton = Automaton(1, [0, 1], [2], [[[1, 2]], [[]], [[2]]])
        before = attributes(automaton)
        trim(automaton)
        union(automaton, automaton)
        intersection(automaton, automaton)
        widen(automaton, 2)
        hide(automaton, 1)
        self.assertEqual(attributes(automaton), before)
