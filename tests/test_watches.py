import itertools
import random
import unittest

from oracles import lively_spec, random_lasso, random_machine, random_spec
from promiseplay.checking import breaking_word
from promiseplay.errors import Mismatch
from promiseplay.machines import Machine, trace
from promiseplay.monitors import Monitor
from promiseplay.prospects import prospects
from promiseplay.specs import Spec, satisfies
from promiseplay.spectext import parse_spec
from promiseplay.synthesis import synthesize
from promiseplay.watches import Table, forecast, machine_watch, patience, watch

LEADS = [-3, -2, -1, 0, 1, 2]


def spec_of(text, lead=0, inputs="r", outputs="g"):
    return parse_spec(f"inputs {inputs}\noutputs {outputs}\nlead {lead}\n".replace(" \n", "\n") + text)


def state_after(table, word):
    state = 0
    for letter in word:
        state = table.rows[state][letter]
    return state


def verdict_on(spec, word):
    good, bad = prospects(spec, list(word))
    return "open" if good and bad else "met" if good else "broken"


def is_least(table):
    """Whether all states are reached in the order of their numbers, and each two are told apart by a word."""
    met = [0]
    for state in met:
        for target in table.rows[state]:
            if target not in met:
                met.append(target)
    if met != list(range(len(table.rows))):
        return False
    apart = {(s, t) for s in met for t in met if table.verdicts[s] != table.verdicts[t]}
    for _ in met:
        more = {(s, t) for s in met for t in met if any((a, b) in apart for a, b in zip(table.rows[s], table.rows[t]))}
        if more <= apart:
            break
        apart |= more
    return all((s, t) in apart for s in met for t in met if s != t)


class Watch(unittest.TestCase):
    def check(self, specs, chance):
        given = list(specs)
        table = watch(specs)
        self.assertEqual(specs, given)
        self.assertIs(type(table), Table)
        self.assertIs(type(table.verdicts), tuple)
        self.assertTrue(all(type(row) is tuple for row in table.rows))
        self.assertTrue(is_least(table))
        letters = 1 << len(specs[0].signals)
        for _ in range(12):
            word = [chance.randrange(letters) for _ in range(chance.randint(0, 5))]
            self.assertEqual(table.verdicts[state_after(table, word)], tuple(verdict_on(spec, word) for spec in specs))
        again = watch(specs)
        self.assertEqual((again.verdicts, again.rows), (table.verdicts, table.rows))
        return table

    def test_the_class(self):
        table = Table([("open",)], [[0, 0]])
        self.assertEqual((table.verdicts, table.rows), ((("open",),), ((0, 0),)))

    def test_one_specification(self):
        chance = random.Random(1)
        for k in range(36):
            spec = lively_spec(chance, 2, 1, lead=LEADS[k % 6])
            table = self.check([spec], chance)
            monitor = Monitor(spec)
            self.assertEqual((table.verdicts, table.rows), (tuple((told,) for told in monitor.verdicts), monitor.rows))

    def test_known_tables(self):
        chance = random.Random(2)
        first, second = spec_of("guarantee g\n", 0, ""), spec_of("guarantee X g\n", -2, "")
        table = self.check([first, second], chance)
        self.assertEqual(table.verdicts, (("open", "open"), ("broken", "open"), ("met", "open"), ("broken", "broken"), ("broken", "met"), ("met", "broken"), ("met", "met")))
        self.assertEqual(table.rows, ((1, 2), (3, 4), (5, 6), (3, 3), (4, 4), (5, 5), (6, 6)))
        self.assertEqual(len(watch([first, first, first]).rows), len(Monitor(first).rows))
        self.assertEqual(watch([spec_of("guarantee G F g\n"), spec_of("guarantee F G g\n")]).rows, ((0, 0, 0, 0),))

    def test_several_specifications(self):
        chance = random.Random(3)
        for _ in range(15):
            specs = [lively_spec(chance, 2, 1)]
            while len(specs) < 3:
                other = lively_spec(chance, 2, 1)
                if (other.inputs, other.outputs) == (specs[0].inputs, specs[0].outputs):
                    specs.append(other)
            self.check(specs, chance)
            self.check(specs[:2], chance)

    def test_mismatch(self):
        spec = spec_of("", inputs="a b", outputs="x")
        for specs in [[], [spec] * 4, [spec, spec_of("", inputs="b a", outputs="x")], [spec, spec_of("", inputs="a b", outputs="y")], [spec, spec_of("", inputs="a", outputs="x")],
                      [spec, spec_of("", inputs="a", outputs="b x")], [spec, spec, spec_of("", inputs="a b", outputs="x y")]]:
            with self.assertRaises(Mismatch):
                watch(specs)
        self.assertEqual(len(watch([spec, spec_of("", 2, "a b", "x"), spec]).rows), 1)


class Forecast(unittest.TestCase):
    def test_known_answers(self):
        spec = spec_of("guarantee X g\n", inputs="")
        self.assertEqual((forecast(spec, "met"), forecast(spec, "broken"), patience(spec)), ([2, 1, None, 0], [2, 1, 0, None], [1, 0, -1, -1]))
        spec = spec_of("guarantee G F g\n")
        self.assertEqual((forecast(spec, "met"), forecast(spec, "broken"), patience(spec)), ([None], [None], [None]))
        spec = spec_of("guarantee F g\n")
        self.assertEqual((forecast(spec, "met"), forecast(spec, "broken"), patience(spec)), ([1, 0], [None, None], [None, -1]))
        self.assertEqual((forecast(spec_of("negated\n"), "broken"), patience(spec_of("negated\n"))), ([0], [-1]))

    def test_against_a_slow_look(self):
        chance = random.Random(4)
        seen = set()
        for k in range(120):
            spec = lively_spec(chance, 2, 1) if k % 3 else random_spec(chance)
            monitor = Monitor(spec)
            waiting, met, broken = patience(spec), forecast(spec, "met"), forecast(spec, "broken")
            self.assertTrue(type(met) is type(broken) is type(waiting) is list)
            self.assertEqual([len(met), len(broken), len(waiting)], [len(monitor.rows)] * 3)
            for state in range(len(monitor.rows)):
                now = {state}
                longest, first = -1, {"met": None, "broken": None}
                for turn in range(2 * len(monitor.rows) + 2):
                    told = {monitor.verdicts[one] for one in now}
                    for word in first:
                        if word in told and first[word] is None:
                            first[word] = turn
                    if "open" in told:
                        longest = turn
                    now = {target for one in now for target in monitor.rows[one]}
                self.assertEqual((met[state], broken[state]), (first["met"], first["broken"]))
                self.assertEqual(waiting[state], None if longest > len(monitor.rows) else longest)
                seen.add((met[state], waiting[state]))
        self.assertGreater(len(seen), 6)


class OfMachines(unittest.TestCase):
    def slow(self, spec, machine, word):
        """What is told of what was heard: the system is looked at in the specification that assumes just this."""
        names = ("i0", "i1", "i2")[:len(spec.inputs)]
        heard = ("true",)
        for turn, letter in reversed(list(enumerate(word))):
            now = ("true",)
            for k, name in enumerate(spec.inputs):
                sign = ("signal", name)
                now = ("and", now, sign if letter >> k & 1 else ("not", sign))
            heard = ("and", now, ("next", heard) if turn < len(word) - 1 else ("true",))
        self.assertLessEqual(len(names), 3)
        whole = ("true",)
        for prop in spec.guarantees:
            whole = ("and", whole, prop)
        for prop in spec.assumptions:
            whole = ("implies", prop, whole)
        whole = ("not", whole) if spec.negated else whole
        keeps = breaking_word(Spec(spec.inputs, spec.outputs, spec.lead, [heard], [whole]), machine) is None
        breaks = breaking_word(Spec(spec.inputs, spec.outputs, spec.lead, [heard], [("not", whole)]), machine) is None
        self.assertFalse(keeps and breaks)
        return "kept" if keeps else "broken" if breaks else "open"

    def check(self, spec, machine, chance, rounds=6):
        table = machine_watch(spec, machine)
        self.assertIs(type(table), Table)
        self.assertTrue(is_least(table))
        self.assertEqual(table.verdicts == ("kept",), breaking_word(spec, machine) is None)
        for _ in range(rounds):
            word = [chance.randrange(machine.inputs) for _ in range(chance.randint(0, 3))]
            told = table.verdicts[state_after(table, word)]
            if told != "open":
                for _ in range(4):
                    head, loop = random_lasso(chance, machine.inputs)
                    self.assertIs(satisfies(spec, trace(machine, (tuple(word) + head, loop))), told == "kept")
            self.assertEqual(told, self.slow(spec, machine, word))
        return table

    def test_known_tables(self):
        chance = random.Random(5)
        echo = [[(0, 0), (0, 1)]]
        table = self.check(spec_of("guarantee g\n"), Machine(2, 2, 0, [], echo), chance)
        self.assertEqual((table.verdicts, table.rows), (("open", "broken", "kept"), ((1, 2), (1, 1), (2, 2))))
        table = self.check(spec_of("guarantee X g\n", -1), Machine(2, 2, -1, [0], echo), chance)
        self.assertEqual((table.verdicts, table.rows), (("open", "broken", "kept"), ((1, 2), (1, 1), (2, 2))))
        table = self.check(spec_of("guarantee g\n", 1), Machine(2, 2, 1, [], echo), chance)
        self.assertEqual((table.verdicts, table.rows), (("open", "open", "broken", "kept"), ((1, 1), (2, 3), (2, 2), (3, 3))))
        self.assertEqual(machine_watch(spec_of("guarantee G F g\n"), Machine(2, 2, 0, [], echo)).verdicts, ("open",))
        self.assertEqual(machine_watch(spec_of("guarantee G F g\n"), Machine(2, 2, 0, [], [[(0, 0), (0, 0)]])).verdicts, ("broken",))
        self.assertEqual(machine_watch(spec_of("guarantee G(g <-> r)\n"), Machine(2, 2, 0, [], echo)).verdicts, ("kept",))
        table = self.check(spec_of("guarantee G !g\n"), Machine(2, 2, 0, [], echo), chance)
        self.assertEqual((table.verdicts, table.rows), (("open", "broken"), ((0, 1), (1, 1))))

    def test_drawn_machines(self):
        chance = random.Random(6)
        told = set()
        for k in range(50):
            spec = lively_spec(chance, 2, 1, lead=LEADS[k % 6], most=2, hidden=0)
            machine = random_machine(chance, 1 << len(spec.inputs), 1 << len(spec.outputs), spec.lead)
            verdict = synthesize(spec)
            if verdict.realizable and k % 4 == 0:
                machine = verdict.machine
            told.update(self.check(spec, machine, chance).verdicts)
        self.assertEqual(told, {"kept", "broken", "open"})

    def test_mismatch(self):
        spec = spec_of("guarantee g\n")
        for machine in [Machine(2, 2, 1, [], [[(0, 0)] * 2]), Machine(1, 2, 0, [], [[(0, 0)]]), Machine(2, 1, 0, [], [[(0, 0)] * 2])]:
            with self.assertRaises(Mismatch):
                machine_watch(spec, machine)


if __name__ == "__main__":
    unittest.main()
