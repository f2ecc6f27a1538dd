import random
import unittest

from oracles import letters_of, random_lasso, random_machine, random_spec, slow_normal, slow_satisfies, slow_trace, trace_automaton
from promiseplay.buchi import find_word
from promiseplay.checking import breaking_word
from promiseplay.errors import Mismatch
from promiseplay.machines import Machine, trace
from promiseplay.operations import intersection
from promiseplay.specs import Spec, dual, spec_automaton
from promiseplay.spectext import parse_spec
from promiseplay.synthesis import synthesize

LEADS = [-3, -2, -1, 0, 1, 2]
ECHO = [[(0, 0), (0, 1)]]


class Checking(unittest.TestCase):
    def check(self, spec, machine, chance):
        found = breaking_word(spec, machine)
        other = Spec(spec.inputs, spec.outputs, spec.lead, spec.assumptions, spec.guarantees, negated=not spec.negated)
        # All traces at once, without judges and delays.
        wanted = find_word(intersection(trace_automaton(machine), spec_automaton(other)))
        self.assertIs(found is None, wanted is None)
        if found is None:
            for _ in range(10):
                self.assertTrue(slow_satisfies(spec, trace(machine, random_lasso(chance, machine.inputs))))
        else:
            self.assertEqual(slow_normal(found), found)
            self.assertLess(max(found[0] + found[1]), machine.inputs)
            broken = trace(machine, found)
            self.assertEqual(letters_of(broken, 40), slow_trace(machine, found, 40))
            self.assertFalse(slow_satisfies(spec, broken))
        self.assertEqual(breaking_word(spec, machine), found)
        return found is None

    def test_known_answers(self):
        for lead, text, wanted in [(0, "G(g <-> r)", True), (1, "G(g <-> X r)", True), (2, "G(g <-> X X r)", True),
                                   (-1, "G(X g <-> r)", True), (-2, "G(X X g <-> r)", True), (-3, "G(X X X g <-> r)", True),
                                   (0, "G(g <-> X r)", False), (1, "G(g <-> r)", False), (-1, "G(g <-> r)", False),
                                   (-3, "!g & X !g & X X !g", True), (-1, "g", False), (0, "G F g", False), (2, "F r -> F(g | r)", True)]:
            spec = parse_spec(f"inputs r\noutputs g\nlead {lead}\nguarantee {text}\n")
            machine = Machine(2, 2, lead, [0] * max(0, -lead), ECHO)
            self.assertIs(breaking_word(spec, machine) is None, wanted, text)
        spec = parse_spec("inputs r\noutputs g\nlead 0\nassume F G r\nguarantee G !g\n")
        self.assertEqual(breaking_word(spec, Machine(2, 2, 0, [], ECHO))[1], (1,))

    def test_machines_against_specifications_of_all_kinds(self):
        chance = random.Random(1)
        kept = 0
        for k in range(240):
            spec = random_spec(chance, lead=LEADS[k % 6])
            machine = random_machine(chance, 1 << len(spec.inputs), 1 << len(spec.outputs), spec.lead)
            kept += self.check(spec, machine, chance)
        self.assertGreater(kept, 50)
        self.assertLess(kept, 190)

    def test_nothing_breaks_what_synthesize_returns(self):
        chance = random.Random(2)
        for k in range(120):
            spec = random_spec(chance, lead=LEADS[k % 6])
            verdict = synthesize(spec)
            self.assertIsNone(breaking_word(spec if verdict.realizable else dual(spec), verdict.machine))

    def test_one_wrong_letter_is_found(self):
        # A machine that counts to 4 is wrong at one state only.
        spec = parse_spec("inputs r\noutputs g\nlead 0\nguarantee G(g <-> r)\n")
        for wrong in range(4):
            rows = [[((k + r) % 4, 1 - r if k == wrong else r) for r in range(2)] for k in range(4)]
            found = breaking_word(spec, Machine(2, 2, 0, [], rows))
            self.assertGreaterEqual(sum(letters_of(found, 10)), wrong)

    def test_what_does_not_fit(self):
        spec = parse_spec("inputs r\noutputs g h\nlead 0\n")
        self.assertIsNone(breaking_word(spec, Machine(2, 4, 0, [], ECHO)))
        for machine in [Machine(2, 2, 0, [], ECHO), Machine(4, 4, 0, [], [[(0, 0)] * 4]), Machine(2, 8, 0, [], ECHO),
                        Machine(1, 4, 0, [], [[(0, 0)]]), Machine(2, 4, 1, [], ECHO), Machine(2, 4, -1, [0], ECHO),
                        Machine(4, 2, -1, [0], [[(0, 0)] * 4])]:
            with self.assertRaises(Mismatch):
                breaking_word(spec, machine)
