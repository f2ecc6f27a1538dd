import random
import unittest

from oracles import all_lassos, is_lasso, random_automaton, random_lasso, slow_accepts, slow_normal
from promiseplay.buchi import Automaton, accepts, find_word
from promiseplay.errors import InvalidAutomaton, InvalidLetter


class Construction(unittest.TestCase):
    def test_attributes(self):
        initial, accepting = [0, 1], [1]
        rows = [[[0], [0, 1]], [[], [1]]]
        automaton = Automaton(2, initial, accepting, rows)
        wanted = (2, (0, 1), (1,), (((0,), (0, 1)), ((), (1,))))
        found = (automaton.letters, automaton.initial, automaton.accepting, automaton.rows)
        self.assertEqual(found, wanted)
        initial.append(7)
        accepting.clear()
        rows[0][0].append(1)
        rows[1][0] = [0]
        rows.append([[], []])
        found = (automaton.letters, automaton.initial, automaton.accepting, automaton.rows)
        self.assertEqual(found, wanted)
        self.assertIs(type(automaton.rows[0][0]), tuple)

    def test_tuples_may_be_passed(self):
        automaton = Automaton(1, (0,), (), (((0,),),))
        self.assertEqual(automaton.rows, (((0,),),))

    def test_faults(self):
        good = [[[0], [1]], [[], [0, 1]]]
        faults = [
            (0, [0], [], [[]]), (-1, [0], [], good), (0, [], [], []), (2, [], [], []),
            (3, [0], [], good), (1, [0], [], good), (2, [0], [], [[[0], [1]], [[]]]), (2, [0], [], [[[0], [1], []], [[], []]]),
            (2, [2], [], good), (2, [-1], [], good), (2, [0, 0], [], good), (2, [1, 0], [], good), (2, [0, 1, 1], [], good),
            (2, [], [2], good), (2, [], [-1], good), (2, [], [1, 0], good), (2, [], [1, 1], good),
            (2, [0], [], [[[0], [2]], [[], []]]), (2, [0], [], [[[0], [-1]], [[], []]]),
            (2, [0], [], [[[0], [1, 0]], [[], []]]), (2, [0], [], [[[0], [1, 1]], [[], []]]),
            (2, [0], [], [[[0], [0, 1, 2]], [[], []]]),
        ]
        for arguments in faults:
            with self.assertRaises(InvalidAutomaton, msg=arguments):
                Automaton(*arguments)
        Automaton(2, [], [], good)


class Words(unittest.TestCase):
    def test_examples(self):
        automaton = Automaton(2, [0], [1], [[[0], [0, 1]], [[1], []]])
        self.assertIs(accepts(automaton, ((1, 1), (0,))), True)
        self.assertIsNone(find_word(Automaton(2, [0], [1], [[[0], [0, 1]], [[], []]])))

    def test_accepts(self):
        chance = random.Random(5)
        for _ in range(400):
            arguments = random_automaton(chance)
            automaton = Automaton(*arguments)
            letters, initial, accepting, rows = arguments
            for _ in range(10):
                lasso = random_lasso(chance, letters)
                self.assertIs(accepts(automaton, lasso), slow_accepts(rows, initial, accepting, lasso))

    def test_accepts_in_any_form(self):
        automaton = Automaton(2, [0], [0], [[[1], []], [[], [0]]])
        for lasso in [((), (0, 1)), ((0,), (1, 0)), ((0, 1, 0, 1), (0, 1, 0, 1)), ((0, 1, 0), (1, 0) * 5)]:
            self.assertIs(accepts(automaton, lasso), True)
        self.assertIs(accepts(automaton, ((1,), (0, 1))), False)

    def test_accepts_edges(self):
        everywhere = [[[0, 1], [0, 1]], [[0, 1], [0, 1]]]
        self.assertIs(accepts(Automaton(2, [], [0, 1], everywhere), ((), (0,))), False)
        self.assertIs(accepts(Automaton(2, [0, 1], [], everywhere), ((), (0,))), False)
        self.assertIs(accepts(Automaton(2, [0, 1], [0, 1], [[[], []], [[], []]]), ((), (0,))), False)
        self.assertIs(accepts(Automaton(2, [0], [1], [[[0], [1]], [[], []]]), ((1,), (0,))), False)
        self.assertIs(accepts(Automaton(1, [0], [0], [[[0]]]), ((0, 0), (0, 0))), True)

    def test_invalid_letters(self):
        automaton = Automaton(2, [], [], [[[], []]])
        for lasso in [((), (2,)), ((2,), (0,)), ((0, 1), (0, 7)), ((10 ** 30,), (1,))]:
            with self.assertRaises(InvalidLetter):
                accepts(automaton, lasso)

    def test_find_word(self):
        chance = random.Random(6)
        empty = 0
        for _ in range(500):
            arguments = random_automaton(chance, 3, 2)
            letters, initial, accepting, rows = arguments
            count = len(rows)
            found = find_word(Automaton(*arguments))
            if found is None:
                empty += 1
                for lasso in all_lassos(letters, count - 1, count):
                    self.assertFalse(slow_accepts(rows, initial, accepting, lasso))
            else:
                self.assertTrue(is_lasso(found))
                self.assertEqual(found, slow_normal(found))
                self.assertLessEqual(len(found[0]), count - 1)
                self.assertLessEqual(len(found[1]), count)
                self.assertTrue(slow_accepts(rows, initial, accepting, found))
                self.assertEqual(found, find_word(Automaton(*arguments)))
        self.assertGreater(empty, 50)
        self.assertLess(empty, 450)

    def test_find_word_bounds_are_met(self):
        # A ring with a tail: the head needs n - 1 letters; a ring alone: the loop needs n.
        rows = [[[k + 1], []] for k in range(9)] + [[[], [9]]]
        self.assertEqual(find_word(Automaton(2, [0], [9], rows)), ((0,) * 9, (1,)))
        rows = [[[k + 1], []] for k in range(9)] + [[[], [0]]]
        self.assertEqual(find_word(Automaton(2, [0], [0], rows)), ((), (0,) * 9 + (1,)))

    def test_find_word_in_larger_automata(self):
        chance = random.Random(7)
        for _ in range(150):
            arguments = random_automaton(chance, 9, 3)
            found = find_word(Automaton(*arguments))
            if found is not None:
                self.assertTrue(slow_accepts(arguments[3], arguments[1], arguments[2], found))
                self.assertLessEqual(len(found[0]), len(arguments[3]) - 1)
                self.assertLessEqual(len(found[1]), len(arguments[3]))

    def test_find_word_edges(self):
        self.assertIsNone(find_word(Automaton(1, [], [0], [[[0]]])))
        self.assertIsNone(find_word(Automaton(1, [0], [], [[[0]]])))
        self.assertIsNone(find_word(Automaton(1, [0], [0], [[[]]])))
        self.assertEqual(find_word(Automaton(1, [0], [0], [[[0]]])), ((), (0,)))
        self.assertEqual(find_word(Automaton(3, [0], [1], [[[], [1], []], [[], [], [1]]])), ((1,), (2,)))
