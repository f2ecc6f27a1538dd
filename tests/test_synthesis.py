import random
import unittest

from oracles import letters_of, random_lasso, random_machine, random_spec, slow_play, slow_satisfies, slow_trace, trace_automaton
from promiseplay.buchi import find_word
from promiseplay.machines import Machine, trace
from promiseplay.minimization import minimize
from promiseplay.operations import intersection
from promiseplay.plays import play
from promiseplay.specs import Spec, dual, spec_automaton
from promiseplay.spectext import parse_spec
from promiseplay.synthesis import Verdict, synthesize

LEADS = [-3, -2, -1, 0, 1, 2]


def parts(machine):
    return machine.inputs, machine.outputs, machine.lead, machine.opening, machine.rows


def text_of(lead, *lines, inputs="r", outputs="g"):
    return f"inputs {inputs}\noutputs {outputs}\nlead {lead}\n".replace(" \n", "\n") + "".join(line + "\n" for line in lines)


def never_breaks(spec, machine):
    """Whether no trace of a machine is a word that does not satisfy a specification: no word is left to chance."""
    other = Spec(spec.inputs, spec.outputs, spec.lead, spec.assumptions, spec.guarantees, negated=not spec.negated)
    return find_word(intersection(trace_automaton(machine), spec_automaton(other))) is None


class Synthesis(unittest.TestCase):
    def check(self, spec, chance, rounds=4):
        """Synthesize, and look at the machine from all sides; return whether the specification is realizable."""
        before = dict(vars(spec))
        verdict = synthesize(spec)
        machine = verdict.machine
        self.assertEqual(vars(spec), before)
        self.assertIs(type(verdict.realizable), bool)
        side = spec if verdict.realizable else dual(spec)
        self.assertEqual((machine.inputs, machine.outputs, machine.lead),
                         (1 << len(side.inputs), 1 << len(side.outputs), side.lead))
        self.assertEqual(parts(minimize(machine)), parts(machine))
        self.assertTrue(never_breaks(side, machine))
        for _ in range(rounds):
            opponent = random_machine(chance, machine.outputs, machine.inputs, -1 - machine.lead)
            if verdict.realizable:
                word = play(machine, opponent)
                reckoned = slow_play(machine, opponent, 40)
            else:
                word = play(opponent, machine)
                reckoned = slow_play(opponent, machine, 40)
            self.assertEqual(letters_of(word, 40), reckoned)
            self.assertIs(slow_satisfies(spec, word), verdict.realizable)
            heard = random_lasso(chance, machine.inputs)
            word = trace(machine, heard)
            self.assertEqual(letters_of(word, 30), slow_trace(machine, heard, 30))
            self.assertTrue(slow_satisfies(side, word))
        return verdict.realizable

    def test_the_class(self):
        machine = Machine(1, 1, 0, [], [[(0, 0)]])
        verdict = Verdict(True, machine)
        self.assertEqual((verdict.realizable, verdict.machine), (True, machine))

    def test_the_examples(self):
        verdict = synthesize(parse_spec(text_of(0, "guarantee G(g <-> r)")))
        self.assertEqual((verdict.realizable, verdict.machine.rows), (True, (((0, 0), (0, 1)),)))
        verdict = synthesize(parse_spec(text_of(0, "guarantee G(g <-> X r)")))
        self.assertEqual((verdict.realizable, verdict.machine.lead, len(verdict.machine.opening)), (False, -1, 1))
        self.assertIs(synthesize(parse_spec(text_of(1, "guarantee G(g <-> X r)"))).realizable, True)

    def test_how_far_ahead_must_be_heard(self):
        chance = random.Random(1)
        for text, least in [("G(g <-> XX r)", 2), ("G(g <-> X r)", 1), ("G(g <-> r)", 0), ("G(X g <-> r)", -1),
                            ("G(XX g <-> r)", -2), ("G(XXX g <-> r)", -3), ("G(Y r <-> g)", -1), ("g <-> XX r", 2),
                            ("G(g <-> XXX r)", 3), ("G F (g <-> r)", 0), ("g <-> X r", 1), ("F(g & X r)", 3), ("G(r -> F g)", -3),
                            ("G(r -> g) & G(g -> X !g)", 3), ("G(g -> X !g) & G(r -> g | X g)", -3), ("false", 3), ("true", -3)]:
            for lead in LEADS:
                spec = parse_spec(text_of(lead, "guarantee " + text))
                self.assertIs(self.check(spec, chance), lead >= least, (text, lead))

    def test_assumptions(self):
        chance = random.Random(2)
        for lines, wanted in [(["assume G(r -> X !r)", "guarantee G(r -> g) & G(g -> X !g)"], True),
                              (["assume G F r", "guarantee G F (g & r)"], True),
                              (["assume G F r", "guarantee G F (g & !r)"], False),
                              (["assume F G r", "guarantee F(g & X r & r)"], True),
                              (["assume false", "guarantee false"], True), (["assume G r"], True), (["assume F g", "guarantee r"], True),
                              (["assume F r", "guarantee false"], False), (["guarantee false", "negated"], True),
                              (["assume G r", "negated"], False), (["negated"], False), ([], True),
                              (["guarantee G(r -> g)", "negated"], False), (["guarantee F(g & !r)", "guarantee G g", "negated"], True)]:
            self.assertIs(self.check(parse_spec(text_of(0, *lines)), chance), wanted, lines)

    def test_hidden_signals(self):
        chance = random.Random(3)
        for lines, wanted in [(["guarantee exists h: h & G(h <-> X !h) & G(h -> (g <-> r))"], True),
                              (["guarantee exists h: G(h <-> X !h) & G(h -> (g <-> X r))"], False),
                              (["guarantee forall h: (G(h <-> X !h) -> G(h -> (g <-> r)))"], True),
                              (["assume exists h: G(h <-> X !h) & G(h -> r)", "guarantee G(g | X g) & G(g -> F r) & F !g"], True),
                              (["guarantee forall h: F(g & h)"], False), (["guarantee exists h: G(g <-> h)", "negated"], False)]:
            self.assertIs(self.check(parse_spec(text_of(0, *lines)), chance), wanted, lines)

    def test_no_signals(self):
        chance = random.Random(4)
        for lead in LEADS:
            for lines, wanted in [([], True), (["guarantee F false"], False), (["guarantee false", "negated"], True)]:
                spec = parse_spec(text_of(lead, *lines, inputs="", outputs=""))
                self.assertIs(self.check(spec, chance), wanted)
                self.assertEqual(synthesize(spec).machine.rows, (((0, 0),),))
            self.assertIs(self.check(parse_spec(text_of(lead, "guarantee G(g <-> X !g)", inputs="")), chance), True)
            self.assertIs(self.check(parse_spec(text_of(lead, "guarantee F r", outputs="")), chance), False)
            self.assertIs(self.check(parse_spec(text_of(lead, "assume F r", "guarantee F r", outputs="")), chance), True)

    def test_three_signals_on_either_side(self):
        chance = random.Random(5)
        lines = ["guarantee G(a -> F x) & G(b -> F y)", "guarantee G !(x & y) & G(z <-> Y c)"]
        for lead, wanted in [(-3, False), (-2, False), (-1, True), (0, True), (1, True), (2, True)]:
            spec = parse_spec(text_of(lead, *lines, inputs="a b c", outputs="x y z"))
            self.assertIs(self.check(spec, chance, 2), wanted)

    def test_specifications_of_all_kinds(self):
        chance = random.Random(6)
        found = [self.check(random_spec(chance, lead=LEADS[k % 6]), chance) for k in range(180)]
        self.assertGreater(sum(found), 40)
        self.assertGreater(len(found) - sum(found), 40)

    def test_either_a_specification_or_its_dual(self):
        chance = random.Random(7)
        for _ in range(80):
            spec = random_spec(chance)
            self.assertIs(synthesize(dual(spec)).realizable, not synthesize(spec).realizable)

    def test_what_keeps_a_specification_realizable(self):
        chance = random.Random(8)
        seen = 0
        for _ in range(160):
            spec = random_spec(chance, negated=False)
            if synthesize(spec).realizable:
                seen += 1
                inputs, outputs = spec.inputs, spec.outputs
                if spec.lead < 2:
                    more = Spec(inputs, outputs, spec.lead + 1, spec.assumptions, spec.guarantees)
                    self.assertTrue(synthesize(more).realizable)
                for k in range(len(spec.guarantees)):
                    fewer = spec.guarantees[:k] + spec.guarantees[k + 1:]
                    self.assertTrue(synthesize(Spec(inputs, outputs, spec.lead, spec.assumptions, fewer)).realizable)
                if len(spec.assumptions) + len(spec.guarantees) < 6:
                    assumed = spec.assumptions + (("eventually", ("true",)),)
                    self.assertTrue(synthesize(Spec(inputs, outputs, spec.lead, assumed, spec.guarantees)).realizable)
                    for name in spec.signals[:1]:
                        assumed = spec.assumptions + (("always", ("signal", name)),)
                        self.assertTrue(synthesize(Spec(inputs, outputs, spec.lead, assumed, spec.guarantees)).realizable)
        self.assertGreater(seen, 50)

    def test_same_result_again(self):
        chance = random.Random(9)
        for _ in range(40):
            spec = random_spec(chance)
            first, second = synthesize(spec), synthesize(spec)
            self.assertEqual((first.realizable, parts(first.machine)), (second.realizable, parts(second.machine)))

    def test_eight_temporal_operators(self):
        # Sizes that come of making one large automaton deterministic would take hours here.
        chance = random.Random(10)
        for lines, least in [(["assume G F a", "assume G F b", "guarantee G F (x & a)", "guarantee G F (y & b)"], -3),
                             (["guarantee (G F a <-> G F x) & (G F b <-> G F y)"], -3),
                             (["guarantee G(a -> F(x & X F(y & X F(b | x))))", "guarantee G !(x & y)"], -3),
                             (["guarantee G(x <-> X X X X X X X a)"], 3), (["guarantee G(x <-> Y Y Y Y Y Y Y a)"], -3),
                             (["guarantee G((a & X X b) -> X X X x) & G(y <-> X a)"], 1)]:
            for lead in LEADS:
                spec = parse_spec(text_of(lead, *lines, inputs="a b", outputs="x y"))
                self.assertIs(self.check(spec, chance, 1), lead >= least, (lines, lead))
