"""What the document promises over the whole program, its examples, and which tests look at which of its points."""

import ast
import pathlib
import random
import unittest

from oracles import lively_spec, random_automaton, random_lasso, random_machine
from promiseplay import errors
from promiseplay.buchi import Automaton, find_word
from promiseplay.checking import breaking_word
from promiseplay.circuits import Circuit, circuit_of, first_difference_of, machine_of
from promiseplay.circuittext import format_circuit
from promiseplay.comparison import complement, included
from promiseplay.determinization import determinize
from promiseplay.faults import borne, fault_trouble, synthesize_bearing, true_word
from promiseplay.formulas import signal_names
from promiseplay.games import Game, distances
from promiseplay.journals import Journal
from promiseplay.machines import Machine, trace
from promiseplay.machinetext import format_machine
from promiseplay.minimization import minimize, separating_word
from promiseplay.monitors import Monitor
from promiseplay.paying import is_short, money_trouble, synthesize_priced
from promiseplay.plays import play
from promiseplay.priced import PricedGame, free_needs, means, needs, plan_works, purse_plan
from promiseplay.prospects import prospects
from promiseplay.reasons import cores, helps, keepable_parts, share
from promiseplay.shields import Shield, freedom, is_safe
from promiseplay.sight import completion, synthesize_sighted, visible
from promiseplay.simpler import simplified
from promiseplay.smallest import smallest_system
from promiseplay.specs import dual, satisfies
from promiseplay.spectext import format_spec, parse_spec
from promiseplay.switching import alike_pairs, safe_pairs, switch_trouble
from promiseplay.synthesis import synthesize
from promiseplay.tidying import tidied
from promiseplay.watches import forecast, machine_watch, patience, watch
from promiseplay.words import make_lasso
from promiseplay.workshop import Workshop

HERE = pathlib.Path(__file__).resolve().parent

# The tests of each point. What stands behind the point of a module is the name of a class of tests.
POINTS = {
    1: "test_document.Whole", 2: "test_document.Whole", 3: "test_document.Whole", 4: "test_errors.ErrorClasses", 5: "test_words.MakeLasso",
    6: "test_words.MakeLasso", 7: "test_words.Words", 8: "test_parsing.Reading", 9: "test_formulas.Counts", 10: "test_truth.TruthWord",
    11: "test_hidden.KnownAnswers", 12: "test_formulas.NormalForm", 13: "test_parsing.Reading", 14: "test_parsing.Printing", 15: "test_parsing.Errors",
    16: "test_buchi.Construction", 17: "test_buchi.Words", 18: "test_operations.Trim", 19: "test_translation.Formulas", 20: "test_parity.Construction",
    21: "test_parity.Complement", 22: "test_parity.Quotient", 23: "test_determinization.Determinization", 24: "test_games.Construction", 25: "test_games.Distances",
    26: "test_solving.Solving", 27: "test_machines.Construction", 28: "test_machines.Calling", 29: "test_machines.Responding", 30: "test_plays.Playing",
    31: "test_minimization.Minimizing", 32: "test_machinetext.Formatting", 33: "test_specs.Satisfying", 34: "test_checking.Checking", 35: "test_specs.Duals",
    36: "test_spectext.Formatting", 37: "test_spectext.Reading", 38: "test_synthesis.Synthesis", 39: "test_synthesis.Synthesis", 40: "test_prospects.Prospects",
    41: "test_prospects.Monitors", 42: "test_journals.Journals", 43: "test_journals.Recovery", 44: "test_certificates.Certificates", 45: "test_congruence.Separating",
    46: "test_congruence.Exponents", 47: "test_expressions.Matching", 48: "test_expressions.FromAutomata", 49: "test_smallest.Smallest", 50: "test_sight.Lifted",
    51: "test_sight.Sighted", 52: "test_priced.Games", 53: "test_priced.WithAPurse", 54: "test_priced.WithAPurse", 55: "test_priced.WithoutAPurse",
    56: "test_priced.WithoutAPurse", 57: "test_paying.Priced", 58: "test_paying.Priced", 59: "test_faults.Trouble", 60: "test_faults.Bearing",
    61: "test_reasons.Cores", 62: "test_reasons.Helps", 63: "test_circuits.Circuits", 64: "test_circuits.OfMachines", 65: "test_tidying.Tidying",
    66: "test_circuittext.Texts", 67: "test_watches.Watch", 68: "test_watches.Forecast", 69: "test_watches.OfMachines", 70: "test_joint.Joined",
    71: "test_joint.JointSystems", 72: "test_switching.Switching", 73: "test_switching.Alike", 74: "test_shields.Safe", 75: "test_shields.Freedom",
    76: "test_shields.Shields", 77: "test_simpler.Simple", 78: "test_simpler.Simplified", 79: "test_workshop.Questions", 80: "test_workshop.Journals",
}


class Points(unittest.TestCase):
    def test_each_point_has_tests(self):
        self.assertEqual(sorted(POINTS), list(range(1, 81)))
        for place in POINTS.values():
            module, name = place.split(".")
            tree = ast.parse((HERE / f"{module}.py").read_text(encoding="utf-8"))
            found = [node for node in tree.body if isinstance(node, ast.ClassDef) and node.name == name]
            self.assertEqual(len(found), 1, place)
            self.assertTrue(any(item.name.startswith("test_") for item in found[0].body if isinstance(item, ast.FunctionDef)))


class Examples(unittest.TestCase):
    def test_each_example_of_the_interface(self):
        examples = (HERE / "examples.txt").read_text(encoding="utf-8").strip("\n").split("\n\n")
        self.assertEqual(len(examples), 33)
        for example in examples:
            names = {}
            lines = example.split("\n")
            self.assertTrue(all(line.startswith(">>> ") for line in lines[:-1]))
            for line in lines[:-2]:
                exec(line[4:], names)
            if lines[-1].startswith("raises "):
                kind, rest = lines[-1][7:].rstrip(")").split("(")
                attribute, value = rest.split("=")
                with self.assertRaises(getattr(errors, kind)) as caught:
                    eval(lines[-2][4:], names)
                self.assertEqual(getattr(caught.exception, attribute), int(value))
            else:
                self.assertEqual(repr(eval(lines[-2][4:], names)), lines[-1], example)


def frozen(value):
    """A value that tells all that equal results have in common; the attributes of objects count."""
    if isinstance(value, (list, tuple)):
        return type(value).__name__, tuple(frozen(part) for part in value)
    if hasattr(value, "__dict__"):
        return type(value).__name__, tuple((name, frozen(part)) for name, part in sorted(vars(value).items()))
    return type(value).__name__, value


def calls(chance):
    """Calls of many functions: pairs of a function and its arguments."""
    spec = lively_spec(chance, 1, 1, lead=0, negated=False, most=2)
    inputs, outputs, letters = 1 << len(spec.inputs), 1 << len(spec.outputs), 1 << len(spec.signals)
    machine, other = random_machine(chance, inputs, outputs, 0), random_machine(chance, inputs, outputs, 0)
    word, heard = random_lasso(chance, letters), random_lasso(chance, inputs)
    automaton = Automaton(*random_automaton(chance))
    game = PricedGame([0, 1], [1, 2], [[(0, -1), (1, 2)], [(0, -1)]])
    prices = tuple(chance.randint(-2, 2) for _ in range(letters))
    formula = ("and", spec.guarantees[0], ("true",)) if spec.guarantees[0][0] not in ("exists", "forall") else ("true",)
    found = [(make_lasso, ([1, 0], [0, 1, 0, 1])), (find_word, (automaton,)), (complement, (automaton,)), (determinize, (automaton,)), (included, (automaton, automaton)),
             (signal_names, (formula,)), (distances, (Game([0, 1], [0, 1], [[1], [0, 1]]), 0, [1])), (trace, (machine, heard)), (minimize, (machine,)),
             (separating_word, (machine, other)), (format_machine, (machine,)), (format_spec, (spec,)), (dual, (spec,)), (satisfies, (spec, word)), (synthesize, (spec,)),
             (breaking_word, (spec, machine)), (prospects, (spec, [0])), (Monitor, (spec,)), (smallest_system, (spec, 2)), (visible, (spec, (), word)),
             (completion, (spec, spec.inputs, word)), (synthesize_sighted, (spec, ())), (needs, (game, 5)), (purse_plan, (game, 5)), (plan_works, (game, 2, ((0, 0, 0), (0, 0, 0)), 0, 1)),
             (free_needs, (game,)), (means, (game,)), (synthesize_priced, (spec, prices, 4)), (money_trouble, (spec, prices, 4, 2, machine)), (is_short, (spec, prices, 4, 2, word)),
             (fault_trouble, (spec, machine, 1)), (borne, (spec, machine, 2)), (true_word, (spec, word, 1)), (synthesize_bearing, (spec, 1)), (share, (spec, (0,))), (cores, (spec,)),
             (keepable_parts, (spec,)), (helps, (spec, [("false",)])), (circuit_of, (machine,)), (machine_of, (circuit_of(machine), 0, [])), (first_difference_of, (machine, circuit_of(other))),
             (tidied, (circuit_of(machine),)), (format_circuit, (circuit_of(machine),)), (watch, ([spec, spec],)), (forecast, (spec, "met")), (patience, (spec,)), (machine_watch, (spec, machine)),
             (safe_pairs, (spec, machine, other)), (switch_trouble, (spec, machine, other, 0, 0)), (alike_pairs, (machine, other)), (is_safe, (spec,)), (simplified, (formula,)), (Workshop, ())]
    if is_safe(spec) and synthesize(spec).realizable:
        found.extend([(freedom, (spec,)), (Shield, (spec,))])
    return found


class Whole(unittest.TestCase):
    def test_exactly_one_of_two_machines(self):
        chance = random.Random(1)
        for k in range(40):
            spec = lively_spec(chance, 2, 2, lead=k % 6 - 3)
            verdict, other = synthesize(spec), synthesize(dual(spec))
            self.assertIs(other.realizable, not verdict.realizable)
            self.assertIsNone(breaking_word(spec if verdict.realizable else dual(spec), verdict.machine))
            self.assertIs(satisfies(spec, play(verdict.machine, random_machine(chance, verdict.machine.outputs, verdict.machine.inputs, -1 - spec.lead)))
                          if verdict.realizable else True, True)

    def test_equal_calls_have_equal_results_and_change_no_arguments(self):
        chance = random.Random(2)
        for _ in range(12):
            for function, arguments in calls(chance):
                before = frozen(arguments)
                first = function(*arguments)
                self.assertEqual(frozen(arguments), before, function)
                second = function(*arguments)
                self.assertEqual(frozen(second), frozen(first), function)
                if type(first) is list:
                    self.assertIsNot(first, second)
                    first.append("changed")
                    self.assertEqual(frozen(function(*arguments)), frozen(second), function)

    def test_attributes_hold_tuples(self):
        chance = random.Random(3)
        spec = parse_spec("inputs r\noutputs g\nlead 0\nguarantee G(r -> g)\n")
        machine = random_machine(chance, 2, 2, 0)
        values = [spec, machine, synthesize(spec), Monitor(spec), Journal(machine), PricedGame([0], [0], [[(0, 1)]]), Circuit(1, [0], [(2, 4)], [2], [2]), watch([spec]), Shield(spec), Workshop()]
        for value in values:
            for name, part in vars(value).items():
                self.assertNotIsInstance(part, list, (type(value), name))
                if isinstance(part, tuple):
                    self.assertFalse(any(isinstance(one, list) for one in part), (type(value), name))

    def test_calls_that_raise_change_nothing(self):
        spec = parse_spec("inputs r\noutputs g\nlead 0\nguarantee G(r -> X g)\n")
        monitor, shield, journal = Monitor(spec), Shield(spec), Journal(Machine(2, 2, 0, [], [[(0, 0), (0, 1)]]))
        monitor.read(1)
        shield.say(1, 0)
        journal.hear(1)
        for value, call in [(monitor, lambda: monitor.read(4)), (shield, lambda: shield.say(0, 2)), (shield, lambda: shield.say(2, 0)), (journal, lambda: journal.hear(2))]:
            before = frozen(value)
            with self.assertRaises(errors.InvalidLetter):
                call()
            self.assertEqual(frozen(value), before)

    def test_integers_are_not_truth_values(self):
        spec = parse_spec("inputs r\noutputs g\nlead 0\nguarantee G(r <-> X g)\n")
        chance = random.Random(4)
        for value in [make_lasso([1], [0, 1]), trace(random_machine(chance, 2, 2, 0), ((0,), (1,))), needs(PricedGame([0], [0], [[(0, 1)]]), 3), freedom(spec), patience(spec),
                      circuit_of(random_machine(chance, 2, 4, 0))([0, 1]), purse_plan(PricedGame([0], [0], [[(0, 1)]]), 3), synthesize(spec).machine.rows]:
            waiting = [value]
            while waiting:
                part = waiting.pop()
                if isinstance(part, (list, tuple)):
                    waiting.extend(part)
                else:
                    self.assertIsNot(type(part), bool)


if __name__ == "__main__":
    unittest.main()
