import random
import unittest

from oracles import exchanged, letters_of, random_machine, slow_normal, slow_play
from promiseplay.errors import Mismatch
from promiseplay.machines import Machine, trace
from promiseplay.plays import play
from promiseplay.words import first_difference

LEADS = [-3, -2, -1, 0, 1, 2]


class Playing(unittest.TestCase):
    def test_the_example(self):
        echo = Machine(2, 2, 0, [], [[(0, 0), (0, 1)]])
        flip = Machine(2, 2, -1, [1], [[(0, 1), (0, 0)]])
        self.assertEqual(play(echo, flip), ((), (3, 0)))
        self.assertEqual(play(flip, echo), ((), (3, 0)))

    def test_letters_of_both(self):
        # Three letters are heard and two said: 2 + 3 * 1 and then 0 + 3 * 0.
        machine = Machine(3, 2, 0, [], [[(0, 0), (0, 0), (0, 1)]])
        opponent = Machine(2, 3, -1, [2], [[(0, 2), (0, 0)]])
        self.assertEqual(play(machine, opponent), ((), (5, 0)))
        self.assertEqual(play(opponent, machine), ((), (5, 0)))

    def test_leads_far_apart(self):
        # The opponent says 0, 0, 1 and then o(n - 3), which is i(n - 1); the machine says i(n + 2).
        machine = Machine(2, 2, 2, [], [[(0, 0), (0, 1)]])
        opponent = Machine(2, 2, -3, [0, 0, 1], [[(0, 0), (0, 1)]])
        self.assertEqual(play(machine, opponent), ((2, 2), (3,)))

    def test_against_reckoning_step_by_step(self):
        chance = random.Random(1)
        for k in range(300):
            lead = LEADS[k % 6]
            p, q = chance.randint(1, 3), chance.randint(1, 3)
            machine = random_machine(chance, p, q, lead, 5)
            opponent = random_machine(chance, q, p, -1 - lead, 5)
            found = play(machine, opponent)
            self.assertEqual(letters_of(found, 70), slow_play(machine, opponent, 70))
            self.assertEqual(slow_normal(found), found)
            other = play(opponent, machine)
            self.assertIsNone(first_difference(other, exchanged(found, p, q)))
            self.assertEqual(slow_normal(other), other)
            self.assertEqual(play(machine, opponent), found)
            heard = tuple(a % p for a in found[0]), tuple(a % p for a in found[1])
            self.assertEqual(trace(machine, heard), found)

    def test_what_does_not_fit(self):
        for lead in LEADS:
            opening = [0] * max(0, -lead)
            machine = Machine(2, 3, lead, opening, [[(0, 0)] * 2])
            for other in range(-3, 3):
                rows = [[(0, 0)] * 3]
                opponent = Machine(3, 2, other, [0] * max(0, -other), rows)
                if other == -1 - lead:
                    self.assertEqual(play(machine, opponent), ((), (0,)))
                else:
                    with self.assertRaises(Mismatch):
                        play(machine, opponent)
            back = [0] * max(0, 1 + lead)
            for p, q in [(3, 3), (2, 2), (3, 1), (4, 2)]:
                with self.assertRaises(Mismatch):
                    play(machine, Machine(p, q, -1 - lead, back, [[(0, 0)] * p]))
