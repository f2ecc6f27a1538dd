import itertools
import random
import unittest

from oracles import random_lasso, random_parity, slow_accepts_parity
from promiseplay.buchi import Automaton, accepts
from promiseplay.errors import InvalidAutomaton, InvalidLetter
from promiseplay.parity import ParityAutomaton, accepts_parity, complement_parity, quotient, to_buchi


def attributes(parity):
    return parity.letters, parity.start, parity.priorities, parity.rows


def slow_quotient(parity):
    """The parts of the quotient: states are alike if no word of fewer letters than states tells them apart."""
    letters, start, priorities, rows = attributes(parity)
    classes = list(priorities)
    for _ in rows:
        signs = [(classes[s], tuple(classes[t] for t in rows[s])) for s in range(len(rows))]
        numbers = {sign: k for k, sign in enumerate(sorted(set(signs)))}
        classes = [numbers[sign] for sign in signs]
    order = [start]
    table = []
    for state in order:
        row = []
        for target in rows[state]:
            known = [classes[s] for s in order]
            if classes[target] not in known:
                known.append(classes[target])
                order.append(target)
            row.append(known.index(classes[target]))
        table.append(tuple(row))
    return letters, 0, tuple(priorities[s] for s in order), tuple(table)


class Construction(unittest.TestCase):
    def test_attributes(self):
        priorities, rows = [3, 0], [[0, 1], [1, 0]]
        parity = ParityAutomaton(2, 1, priorities, rows)
        wanted = (2, 1, (3, 0), ((0, 1), (1, 0)))
        self.assertEqual(attributes(parity), wanted)
        priorities[0] = 1
        rows[0][0] = 1
        rows.append([0, 0])
        self.assertEqual(attributes(parity), wanted)
        self.assertEqual(attributes(ParityAutomaton(1, 0, (0,), ((0,),))), (1, 0, (0,), ((0,),)))

    def test_faults(self):
        rows = [[0, 1], [1, 0]]
        for arguments in [
                (0, 0, [0], [[]]), (-1, 0, [0, 0], rows), (2, 0, [], []), (2, 0, [0], rows), (2, 0, [0, 0, 0], rows),
                (2, 0, [], rows), (1, 0, [0, 0], rows), (3, 0, [0, 0], rows), (2, 0, [0, 0], [[0, 1], [1]]),
                (2, 0, [0, 0], [[0, 1, 1], [1, 0]]), (2, 2, [0, 0], rows), (2, -1, [0, 0], rows), (2, 0, [0, -1], rows),
                (2, 0, [-7, 0], rows), (2, 0, [0, 0], [[0, 2], [1, 0]]), (2, 0, [0, 0], [[0, 1], [-1, 0]]),
                (2, 0, [0, 0], [[0, 1], []])]:
            with self.assertRaises(InvalidAutomaton, msg=arguments):
                ParityAutomaton(*arguments)


class Words(unittest.TestCase):
    def test_accepts(self):
        chance = random.Random(18)
        for _ in range(300):
            arguments = random_parity(chance)
            parity = ParityAutomaton(*arguments)
            other = complement_parity(parity)
            for _ in range(8):
                lasso = random_lasso(chance, arguments[0])
                wanted = slow_accepts_parity(*arguments[1:], lasso)
                self.assertIs(accepts_parity(parity, lasso), wanted)
                self.assertIs(accepts_parity(other, lasso), not wanted)

    def test_great_priorities(self):
        for shift in (0, 10 ** 30):
            parity = ParityAutomaton(2, 0, [shift, shift + 1], [[0, 1], [0, 1]])
            self.assertIs(accepts_parity(parity, ((1, 1), (0,))), True)
            self.assertIs(accepts_parity(parity, ((0, 0), (0, 1))), False)
            self.assertIs(accepts_parity(parity, ((0,), (0, 0, 0, 0))), True)

    def test_the_head_does_not_count(self):
        parity = ParityAutomaton(2, 0, [5, 0, 1], [[1, 2], [1, 2], [1, 2]])
        self.assertIs(accepts_parity(parity, ((), (0,))), True)
        self.assertIs(accepts_parity(parity, ((1, 1, 1), (0,))), True)
        self.assertIs(accepts_parity(parity, ((0,), (1,))), False)

    def test_loops_that_must_be_repeated(self):
        rows = [[k + 1] for k in range(8)] + [[4]]
        self.assertIs(accepts_parity(ParityAutomaton(1, 0, [9, 9, 9, 9, 0, 0, 2, 1, 0], rows), ((), (0,))), True)
        self.assertIs(accepts_parity(ParityAutomaton(1, 0, [8, 8, 8, 8, 0, 0, 2, 3, 0], rows), ((), (0, 0))), False)

    def test_invalid_letters(self):
        parity = ParityAutomaton(2, 0, [0], [[0, 0]])
        for lasso in [((), (2,)), ((5,), (0,)), ((0,), (1, 2))]:
            with self.assertRaises(InvalidLetter):
                accepts_parity(parity, lasso)


class Complement(unittest.TestCase):
    def test_priorities(self):
        parity = ParityAutomaton(2, 1, [0, 7, 2], [[0, 1], [2, 0], [1, 1]])
        self.assertEqual(attributes(complement_parity(parity)), (2, 1, (1, 8, 3), parity.rows))
        self.assertEqual(parity.priorities, (0, 7, 2))


class Quotient(unittest.TestCase):
    def test_example(self):
        small = quotient(ParityAutomaton(2, 2, [0, 1, 1], [[0, 0], [2, 0], [1, 0]]))
        self.assertEqual((small.start, small.priorities, small.rows), (0, (1, 0), ((0, 1), (1, 1))))

    def test_the_very_automaton(self):
        chance = random.Random(19)
        for _ in range(600):
            parity = ParityAutomaton(*random_parity(chance, 8, 3, chance.randint(1, 3)))
            small = quotient(parity)
            self.assertEqual(attributes(small), slow_quotient(parity))
            self.assertEqual(attributes(quotient(small)), attributes(small))
            copies = len(parity.rows)
            twice = ParityAutomaton(parity.letters, parity.start + copies, parity.priorities * 2,
                                    [[t + chance.choice([0, copies]) for t in row] for row in parity.rows * 2])
            self.assertEqual(attributes(quotient(twice)), attributes(small))

    def test_long_chains(self):
        n = 300
        rows = [[min(k + 1, n - 1), 0] for k in range(n)]
        parity = ParityAutomaton(2, 0, [0] * (n - 1) + [1], rows)
        self.assertEqual(attributes(quotient(parity)), attributes(parity))
        parity = ParityAutomaton(2, 0, [4] * n, rows)
        self.assertEqual(attributes(quotient(parity)), (2, 0, (4,), ((0, 0),)))

    def test_priorities_are_not_changed(self):
        parity = ParityAutomaton(1, 0, [10, 12], [[1], [0]])
        self.assertEqual(quotient(parity).priorities, (10, 12))


class ToBuchi(unittest.TestCase):
    def test_words_and_size(self):
        chance = random.Random(20)
        for _ in range(300):
            arguments = random_parity(chance, 5, 3, chance.choice([1, 2, 3, 7]))
            parity = ParityAutomaton(*arguments)
            found = to_buchi(parity)
            self.assertIsInstance(found, Automaton)
            self.assertEqual(found.letters, parity.letters)
            self.assertLessEqual(len(found.rows), len(parity.rows) * (max(parity.priorities) + 2))
            for _ in range(8):
                lasso = random_lasso(chance, arguments[0])
                self.assertIs(accepts(found, lasso), slow_accepts_parity(*arguments[1:], lasso))

    def test_each_pair_of_priorities(self):
        for first, second in itertools.product(range(5), repeat=2):
            found = to_buchi(ParityAutomaton(2, 0, [first, second], [[0, 1], [0, 1]]))
            self.assertEqual(accepts(found, ((), (0,))), first % 2 == 0)
            self.assertEqual(accepts(found, ((0,), (1,))), second % 2 == 0)
            self.assertEqual(accepts(found, ((), (0, 1))), max(first, second) % 2 == 0)
            self.assertLessEqual(len(found.rows), 2 * (max(first, second) + 2))

    def test_priority_60(self):
        found = to_buchi(ParityAutomaton(1, 0, [60, 59], [[1], [0]]))
        self.assertTrue(accepts(found, ((), (0,))))
        self.assertLessEqual(len(found.rows), 2 * 62)
