import random
import unittest

from oracles import all_lassos, letters_of, random_lasso, slow_normal
from promiseplay.errors import EmptyLoop, InvalidLetter, InvalidTurn
from promiseplay.words import combine, first_difference, letter_at, make_lasso, relabel, suffix

FAR = 10 ** 30


class MakeLasso(unittest.TestCase):
    def test_examples(self):
        self.assertEqual(make_lasso([0, 1], [0, 1, 0, 1]), ((), (0, 1)))
        self.assertEqual(suffix(make_lasso([2], [0, 1, 1]), 3), ((), (1, 0, 1)))
        self.assertEqual(first_difference(((0,), (1, 0)), ((), (0, 1, 0))), 3)

    def test_all_small_lassos(self):
        for head, loop in all_lassos(2, 4, 4):
            self.assertEqual(make_lasso(list(head), list(loop)), slow_normal((head, loop)))

    def test_random_lassos_with_great_letters(self):
        chance = random.Random(1)
        for _ in range(500):
            head, loop = random_lasso(chance, 3, 6, 6)
            head, loop = [[a * FAR for a in part] for part in (head, loop)]
            loop = loop * chance.randint(1, 3)
            head = head + (loop * 2)[chance.randint(0, len(loop)):]
            self.assertEqual(make_lasso(head, loop), slow_normal((tuple(head), tuple(loop))))

    def test_long_ones(self):
        self.assertEqual(make_lasso([0] * 20000, [0] * 20000), ((), (0,)))
        self.assertEqual(make_lasso([0, 1] * 5000, [0, 1] * 5000), ((), (0, 1)))
        self.assertEqual(make_lasso([5] + [0] * 9999, [0] * 10000), ((5,), (0,)))

    def test_kinds(self):
        head, loop = make_lasso([1, 2], [3])
        self.assertIs(type(head), tuple)
        self.assertIs(type(loop), tuple)

    def test_arguments_stay(self):
        head, loop = [0, 1], [0, 1, 0, 1]
        make_lasso(head, loop)
        self.assertEqual((head, loop), ([0, 1], [0, 1, 0, 1]))

    def test_errors(self):
        with self.assertRaises(EmptyLoop):
            make_lasso([0], [])
        with self.assertRaises(EmptyLoop):
            make_lasso([-1], [])
        for head, loop in [([-1], [0]), ([0], [-1]), ([], [0, -5]), ([0, -1, 2], [1])]:
            with self.assertRaises(InvalidLetter):
                make_lasso(head, loop)


class Words(unittest.TestCase):
    def setUp(self):
        self.random = random.Random(2)
        self.lassos = [random_lasso(self.random, 3, 5, 5) for _ in range(150)]

    def test_letter_at(self):
        for lasso in self.lassos:
            letters = letters_of(lasso, 40)
            self.assertEqual([letter_at(lasso, turn) for turn in range(40)], letters)
            period = len(lasso[1])
            far = FAR * period + len(lasso[0])
            self.assertEqual([letter_at(lasso, far + k) for k in range(period)], list(lasso[1]))

    def test_suffix(self):
        for lasso in self.lassos:
            for turns in range(15):
                found = suffix(lasso, turns)
                self.assertEqual(found, slow_normal(found))
                self.assertEqual(letters_of(found, 30), letters_of(lasso, 30 + turns)[turns:])
            far = FAR * len(lasso[1]) + len(lasso[0])
            self.assertEqual(suffix(lasso, far), make_lasso([], lasso[1]))
            self.assertEqual(suffix(lasso, far + 1), suffix(((), lasso[1]), 1))

    def test_relabel(self):
        for table in ([0, 1, 2], [0, 0, 0], [7, 7, 9], [FAR, 3, 0, 5]):
            for lasso in self.lassos:
                found = relabel(lasso, table)
                self.assertEqual(found, slow_normal(found))
                self.assertEqual(letters_of(found, 30), [table[a] for a in letters_of(lasso, 30)])

    def test_relabel_errors(self):
        for lasso in [((), (2,)), ((2,), (0,)), ((0, 5), (1,)), ((), (0, 1, FAR))]:
            with self.assertRaises(InvalidLetter):
                relabel(lasso, [1, 0])
        with self.assertRaises(InvalidLetter):
            relabel(((), (0,)), [])

    def test_combine(self):
        for first in self.lassos[:40]:
            for second in self.lassos[40:60]:
                for size in (1, 3, FAR):
                    found = combine(first, second, size)
                    together = zip(letters_of(first, 70), letters_of(second, 70))
                    self.assertEqual(letters_of(found, 70), [a + size * b for a, b in together])
                    self.assertEqual(found, make_lasso(list(found[0]), list(found[1])))

    def test_combine_coprime_loops(self):
        found = combine(((), (0,) * 6 + (1,)), ((0, 0), (0,) * 10 + (1,)), 2)
        self.assertEqual(len(found[1]), 77)

    def test_first_difference(self):
        for first in self.lassos[:50]:
            for second in self.lassos[50:]:
                pairs = list(zip(letters_of(first, 60), letters_of(second, 60)))
                wanted = next((k for k, (a, b) in enumerate(pairs) if a != b), None)
                self.assertEqual(first_difference(first, second), wanted)

    def test_first_difference_late(self):
        first = ((0,) * 50 + (1,), (0,))
        self.assertEqual(first_difference(first, ((), (0,))), 50)
        self.assertEqual(first_difference(((), (0, 0, 0, 0, 1)), ((), (0, 0, 0, 0, 1, 0, 0, 0, 0))), 9)
        # Fine and Wilf: words with periods p and q that agree for p + q - 2 letters may still differ.
        self.assertEqual(first_difference(((), (0, 1, 0)), ((), (0, 1, 0, 0, 1))), 6)
        self.assertIsNone(first_difference(((0, 1), (0, 1, 0, 1)), ((), (0, 1))))
        self.assertIsNone(first_difference(((5,), (5, 5)), ((5, 5, 5), (5,))))

    def test_negative_turns(self):
        for turn in (-1, -FAR):
            with self.assertRaises(InvalidTurn):
                letter_at(((), (0,)), turn)
            with self.assertRaises(InvalidTurn):
                suffix(((0,), (1,)), turn)

    def test_tables_stay(self):
        table = [1, 0, 1]
        relabel(((0, 1), (2,)), table)
        self.assertEqual(table, [1, 0, 1])
