import itertools
import random
import unittest

from oracles import (joined_words, letters_of, lively_spec, random_lasso, random_machine, random_spec, said_in,
                     slow_normal, slow_said, slow_satisfies)
from promiseplay.checking import breaking_word
from promiseplay.errors import InvalidLetter, Mismatch
from promiseplay.faults import borne, fault_trouble, synthesize_bearing, true_word
from promiseplay.machines import Machine, respond
from promiseplay.minimization import minimize
from promiseplay.plays import play
from promiseplay.spectext import parse_spec
from promiseplay.synthesis import Verdict, synthesize
from promiseplay.words import combine

LEADS = [-3, -2, -1, 0, 1, 2]
FAR = 80


def spec_of(text, lead=0, inputs="a", outputs="g"):
    return parse_spec(f"inputs {inputs}\noutputs {outputs}\nlead {lead}\n".replace(" \n", "\n") + text)


def faults_between(first, second):
    """In how many turns two words differ; the caller ensures that they do not differ for ever."""
    head = max(len(first[0]), len(second[0]))
    tail = head + len(first[1]) * len(second[1])
    one, other = letters_of(first, tail), letters_of(second, tail)
    assert one[head:] == other[head:]
    return sum(a != b for a, b in zip(one, other))


class Trouble(unittest.TestCase):
    def check(self, spec, machine, k, chance):
        """Look at what is told; return whether the machine bears k faults."""
        found = fault_trouble(spec, machine, k)
        inputs = machine.inputs
        if found is not None:
            self.assertIs(type(found), tuple)
            true, heard = found
            self.assertEqual((slow_normal(true), slow_normal(heard)), (true, heard))
            self.assertLessEqual(faults_between(true, heard), k)
            said = respond(machine, heard)
            self.assertEqual(letters_of(said, FAR), slow_said(machine, letters_of(heard, FAR + 3))[:FAR])
            word = combine(true, said, inputs)
            self.assertEqual(letters_of(word, FAR), joined_words(true, said, inputs, FAR))
            self.assertFalse(slow_satisfies(spec, word))
        else:
            for _ in range(8):
                heard = random_lasso(chance, inputs)
                longer = list(letters_of(heard, 12))
                for _ in range(k):
                    longer[chance.randrange(12)] = chance.randrange(inputs)
                rest = letters_of(heard, 12 + 60)[12:12 + 12]
                true = (tuple(longer), tuple(rest))
                whole = (tuple(letters_of(heard, 12)), tuple(rest))
                self.assertTrue(slow_satisfies(spec, combine(true, respond(machine, whole), inputs)))
        self.assertEqual(fault_trouble(spec, machine, k), found)
        return found is None

    def test_known_answers(self):
        echo = [[(0, 0), (0, 1)]]
        chance = random.Random(1)
        for text, lead, rows, wanted in [("guarantee G(g <-> a)\n", 0, echo, 0), ("guarantee G F (g <-> a)\n", 0, echo, 3),
                                         ("guarantee F(g <-> a)\n", 0, echo, 3), ("guarantee (g <-> a) | X(g <-> a)\n", 0, echo, 1),
                                         ("guarantee (g <-> a) | X(g <-> a) | XX(g <-> a)\n", 0, echo, 2),
                                         ("guarantee (g <-> a) | X(g <-> a) | XX(g <-> a) | XXX(g <-> a)\n", 0, echo, 3),
                                         ("guarantee G(g <-> X a)\n", 0, echo, -1), ("guarantee G(X g <-> a)\n", -1, echo, 0),
                                         ("guarantee G(g <-> X a)\n", 1, echo, 0), ("guarantee true\n", 2, echo, 3), ("guarantee G !g\n", 0, [[(0, 0), (0, 0)]], 3)]:
            spec = spec_of(text, lead)
            machine = Machine(2, 2, lead, [0] * max(0, -lead), rows)
            for most in range(4):
                self.assertEqual(borne(spec, machine, most), min(most, wanted), text)
                self.assertIs(self.check(spec, machine, most, chance), most <= wanted)

    def test_machines_of_all_kinds(self):
        chance = random.Random(2)
        told = {}
        for n in range(100):
            spec = lively_spec(chance, 2, 2, lead=LEADS[n % 6], most=2)
            system = random_machine(chance, 1 << len(spec.inputs), 1 << len(spec.outputs), spec.lead)
            verdict = synthesize(spec)
            if verdict.realizable and chance.random() < 0.6:
                system = verdict.machine
            kept = [self.check(spec, system, k, chance) for k in range(3)]
            self.assertEqual(kept, sorted(kept, reverse=True))
            self.assertIs(kept[0], breaking_word(spec, system) is None)
            self.assertEqual(borne(spec, system, 2), sum(kept) - 1)
            self.assertEqual(borne(spec, system, 0), min(sum(kept), 1) - 1)
            told[tuple(kept)] = told.get(tuple(kept), 0) + 1
        self.assertGreater(told[(True, True, True)], 10)
        self.assertGreater(told[(False, False, False)], 10)
        self.assertGreater(told[(True, False, False)], 3)

    def test_mismatch(self):
        spec = spec_of("guarantee G(g <-> a)\n")
        for machine in [Machine(2, 2, 1, [], [[(0, 0)] * 2]), Machine(1, 2, 0, [], [[(0, 0)]]), Machine(2, 1, 0, [], [[(0, 0)] * 2])]:
            with self.assertRaises(Mismatch):
                fault_trouble(spec, machine, 1)
            with self.assertRaises(Mismatch):
                borne(spec, machine, 1)


class TrueWord(unittest.TestCase):
    def slow(self, spec, word, k):
        """Whether some true word with at most k faults within the first turns breaks the specification."""
        inputs = 1 << len(spec.inputs)
        letters = letters_of(word, 4)
        rest = letters_of(word, 4 + 12)[4:]
        cut = len(word[1])
        rest = rest[:cut]
        for places in itertools.combinations(range(4), min(k, 4)):
            for values in itertools.product(range(inputs), repeat=len(places)):
                changed = list(letters)
                for place, value in zip(places, values):
                    changed[place] = changed[place] // inputs * inputs + value
                if not slow_satisfies(spec, (tuple(changed), tuple(rest))):
                    return True
        return False

    def test_against_a_slow_look(self):
        chance = random.Random(3)
        told = {True: 0, False: 0}
        for n in range(150):
            spec = lively_spec(chance, 2, 1, most=2) if n % 3 else random_spec(chance)
            inputs = 1 << len(spec.inputs)
            word = random_lasso(chance, 1 << len(spec.signals), 2, 2)
            before = False
            for k in range(4):
                found = true_word(spec, word, k)
                if found is not None:
                    self.assertEqual(slow_normal(found), found)
                    heard = (tuple(a % inputs for a in word[0]), tuple(a % inputs for a in word[1]))
                    self.assertLessEqual(faults_between(found, heard), k)
                    self.assertFalse(slow_satisfies(spec, combine(found, said_in(word, inputs), inputs)))
                else:
                    self.assertFalse(before)
                    self.assertFalse(self.slow(spec, word, k))
                before = found is not None
                self.assertEqual(true_word(spec, word, k), found)
                if k == 0:
                    self.assertIs(before, not slow_satisfies(spec, word))
            told[before] += 1
        self.assertGreater(min(told.values()), 20)

    def test_known_answers(self):
        spec = spec_of("guarantee X X (g <-> a)\n")
        self.assertIsNone(true_word(spec, ((), (3,)), 0))
        self.assertEqual(true_word(spec, ((), (3,)), 1), ((1, 1, 0), (1,)))
        self.assertEqual(true_word(spec, ((), (2,)), 0), ((), (0,)))
        spec = spec_of("guarantee F(g <-> a)\n")
        self.assertIsNone(true_word(spec, ((), (3, 2)), 3))

    def test_invalid_letters(self):
        spec = spec_of("guarantee g\n", inputs="a b", outputs="g")
        true_word(spec, ((7,), (0,)), 1)
        for word in [((8,), (0,)), ((), (0, 8))]:
            with self.assertRaises(InvalidLetter):
                true_word(spec, word, 1)


class Bearing(unittest.TestCase):
    def check(self, spec, k, chance):
        before = dict(vars(spec))
        verdict = synthesize_bearing(spec, k)
        self.assertEqual(vars(spec), before)
        machine = verdict.machine
        self.assertIs(type(verdict), Verdict)
        self.assertIs(type(verdict.realizable), bool)
        self.assertEqual(minimize(machine).rows, machine.rows)
        inputs, outputs = 1 << len(spec.inputs), 1 << len(spec.outputs)
        if verdict.realizable:
            self.assertIsNone(fault_trouble(spec, machine, k))
            self.assertEqual(borne(spec, machine, k), k)
            return True
        self.assertEqual((machine.inputs, machine.outputs, machine.lead), (outputs, inputs, -1 - spec.lead))
        for _ in range(3):
            system = random_machine(chance, inputs, outputs, spec.lead)
            word = play(system, machine)
            true = true_word(spec, word, k)
            self.assertIsNotNone(true)
            self.assertFalse(slow_satisfies(spec, combine(true, said_in(word, inputs), inputs)))
            self.assertIsNotNone(fault_trouble(spec, system, k))
        return False

    def test_known_answers(self):
        chance = random.Random(4)
        for text, lead, wanted in [("guarantee G(g <-> a)\n", 0, 0), ("guarantee G F (g <-> a)\n", 0, 3), ("guarantee G !g\n", -3, 3),
                                   ("guarantee (g <-> a) | X(g <-> a)\n", 0, 1), ("guarantee (g <-> a) | X(g <-> a) | XX(g <-> a)\n", 0, 2),
                                   ("guarantee G(g <-> X a)\n", 0, -1), ("guarantee G(g <-> X a)\n", 2, 0), ("guarantee (g <-> Y a) | X(g <-> Y a)\n", -1, 3),
                                   ("assume G F a\nguarantee G F g\n", 0, 3), ("guarantee G(a -> g)\n", 0, 3), ("guarantee G(g -> F a)\n", 0, 3),
                                   ("guarantee G(a -> F g) & G(g -> O a) & F g\n", 0, -1), ("guarantee (F a -> F g) & (F g -> F a)\n", 0, 0),
                                   ("guarantee (G F a) <-> (G F g)\n", 0, 3), ("guarantee F(a & X a) -> F g\nguarantee F g -> F a\n", 0, 0),
                                   ("guarantee g <-> a\nnegated\n", 0, 0), ("guarantee F G (g <-> a)\nguarantee forall h: F(h -> g | !g)\n", 0, 3)]:
            spec = spec_of(text, lead)
            told = [self.check(spec, k, chance) for k in range(4)]
            self.assertEqual(told, [k <= wanted for k in range(4)], text)

    def test_no_inputs_means_no_faults(self):
        chance = random.Random(5)
        spec = spec_of("guarantee G F g & G F !g\n", inputs="")
        self.assertTrue(self.check(spec, 3, chance))

    def test_specifications_of_all_kinds(self):
        chance = random.Random(6)
        told = {}
        for n in range(60):
            spec = lively_spec(chance, 2, 2, lead=LEADS[n % 6], most=2)
            kept = [self.check(spec, k, chance) for k in range(4)]
            self.assertEqual(kept, sorted(kept, reverse=True))
            self.assertIs(kept[0], synthesize(spec).realizable)
            told[sum(kept)] = told.get(sum(kept), 0) + 1
        self.assertGreater(told[0], 10)
        self.assertGreater(told[4], 10)
        self.assertGreater(told[1], 1)

    def test_where_no_system_bears_none_of_the_small_ones_does(self):
        chance = random.Random(7)
        for n in range(40):
            spec = lively_spec(chance, 1, 1, lead=LEADS[n % 6], most=2)
            k = chance.randint(1, 3)
            if not synthesize_bearing(spec, k).realizable:
                for _ in range(10):
                    machine = random_machine(chance, 1 << len(spec.inputs), 1 << len(spec.outputs), spec.lead)
                    self.assertIsNotNone(fault_trouble(spec, machine, k))


if __name__ == "__main__":
    unittest.main()
