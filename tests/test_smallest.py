import random
import unittest

from oracles import is_numbered, lively_spec, machines_of, random_lasso, slow_satisfies
from promiseplay.checking import breaking_word
from promiseplay.machines import Machine, trace
from promiseplay.smallest import smallest_system
from promiseplay.spectext import parse_spec
from promiseplay.synthesis import synthesize


def spec_of(lead, *lines, inputs="r", outputs="g"):
    text = f"inputs {inputs}\noutputs {outputs}\nlead {lead}\n".replace(" \n", "\n")
    return parse_spec(text + "".join(line + "\n" for line in lines))


class Smallest(unittest.TestCase):
    def check(self, spec, limit, chance):
        """Look at the answer from all sides; return the number of states, or None."""
        before = dict(vars(spec))
        machine = smallest_system(spec, limit)
        self.assertEqual(vars(spec), before)
        verdict = synthesize(spec)
        if machine is None:
            if verdict.realizable:
                self.assertGreater(len(verdict.machine.rows), limit)
            return None
        self.assertIs(type(machine), Machine)
        self.assertTrue(verdict.realizable)
        self.assertLessEqual(len(machine.rows), min(limit, len(verdict.machine.rows)))
        self.assertIsNone(breaking_word(spec, machine))
        self.assertTrue(is_numbered(machine))
        for _ in range(3):
            self.assertTrue(slow_satisfies(spec, trace(machine, random_lasso(chance, machine.inputs))))
        again = smallest_system(spec, limit)
        self.assertEqual((again.opening, again.rows), (machine.opening, machine.rows))
        return len(machine.rows)

    def check_fewer(self, spec, states):
        """Something breaks each machine with so many states."""
        for machine in machines_of(1 << len(spec.inputs), 1 << len(spec.outputs), spec.lead, states):
            self.assertIsNotNone(breaking_word(spec, machine))

    def test_the_example(self):
        spec = spec_of(0, "guarantee G(r -> F g) & G(g -> X!g)")
        self.assertIsNone(smallest_system(spec, 1))
        self.assertEqual(len(smallest_system(spec, 2).rows), 2)

    def test_known_sizes(self):
        chance = random.Random(1)
        for lead, lines, wanted in [(0, ["guarantee G(g <-> r)"], 1), (0, ["guarantee G(g <-> Y r)"], 2), (0, ["guarantee G(g <-> YY r)"], None),
                                    (-1, ["guarantee G(X g <-> r)"], 1), (-2, ["guarantee G(X g <-> Y r)"], 1), (1, ["guarantee G(g <-> r)"], 2),
                                    (-1, ["guarantee G(g <-> Y O r)"], 2), (0, ["guarantee G(g <-> O r)"], 2),
                                    (0, ["guarantee G(g <-> (r <-> Z g))"], 2), (0, ["guarantee G(g <-> X !g)"], 2),
                                    (0, ["guarantee g & X !g & XX !g & G(g <-> XXX g)"], 3), (-3, ["guarantee g & X !g & XX !g & G(g <-> XXX g)"], 3),
                                    (0, ["guarantee G(r -> X g) & G(X g -> r)"], 2), (0, ["guarantee G(g -> XX g) & F(g & X !g) & G F !g"], 2),
                                    (2, ["guarantee G(g <-> XX r)"], 1), (2, ["guarantee G(g <-> X r)"], 2), (2, ["guarantee G(g <-> r)"], None),
                                    (0, ["assume G F r", "guarantee G F (g & Y !g)"], 2), (0, ["guarantee F(g & X(!g & X(!g & X g)))"], 3),
                                    (0, ["guarantee G(g <-> XXXX !g)"], None), (0, ["guarantee G(g <-> X r)"], None),
                                    (-3, ["guarantee exists h: h & G(h <-> X !h) & G(h <-> g)"], 2),
                                    (0, ["guarantee forall h: G(h -> F r) -> G(h -> F g)"], 1), (1, ["guarantee G !g", "negated"], 1),
                                    (0, ["guarantee G(g <-> X g)", "negated"], 2), (0, [], 1)]:
            spec = spec_of(lead, *lines)
            self.assertEqual(self.check(spec, 3, chance), wanted, (lead, lines))
            for limit in (1, 2):
                self.assertEqual(self.check(spec, limit, chance), wanted if wanted is not None and wanted <= limit else None)

    def test_no_inputs_and_no_outputs(self):
        chance = random.Random(2)
        self.assertEqual(self.check(spec_of(0, "guarantee G(g <-> X !g)", inputs=""), 3, chance), 2)
        self.assertEqual(self.check(spec_of(-2, "guarantee g & X g & XX !g & G(g <-> XXX g)", inputs=""), 3, chance), 3)
        self.assertEqual(self.check(spec_of(-1, "guarantee F r | G !r", outputs=""), 3, chance), 1)
        self.assertIsNone(self.check(spec_of(0, "guarantee F r", outputs=""), 3, chance))
        self.assertEqual(self.check(spec_of(0, inputs="", outputs=""), 1, chance), 1)
        self.assertIsNone(self.check(spec_of(0, "negated", inputs="", outputs=""), 3, chance))

    def test_specifications_of_all_kinds(self):
        chance = random.Random(3)
        sizes = {}
        for k in range(250):
            spec = lively_spec(chance, 1, 1, lead=k % 6 - 3)
            size = self.check(spec, chance.randint(1, 3), chance)
            sizes[size] = sizes.get(size, 0) + 1
        self.assertTrue({None, 1, 2} <= set(sizes), sizes)

    def test_all_machines_with_fewer_states_are_broken(self):
        chance = random.Random(4)
        looked = {1: 0, 2: 0}
        while min(looked.values()) < 3:
            spec = lively_spec(chance, 1, 1, lead=chance.randint(-1, 2), most=2)
            if synthesize(spec).realizable:
                for limit in (1, 2):
                    if looked[limit] < 3 and smallest_system(spec, limit) is None:
                        self.check_fewer(spec, limit)
                        looked[limit] += 1


if __name__ == "__main__":
    unittest.main()
