import itertools
import random
import unittest

from oracles import is_numbered, lively_spec, machines_of, random_lasso, random_machine, slow_said, slow_satisfies
from promiseplay.checking import breaking_word
from promiseplay.errors import InvalidShares, Mismatch
from promiseplay.joint import joined, joint_system
from promiseplay.machines import Machine, trace
from promiseplay.smallest import smallest_system
from promiseplay.spectext import parse_spec

ALL = (("a", "b"), ("x", "y"))
NOTHING = ((), ())


def spec_of(text, lead=0, inputs="a b", outputs="x y"):
    return parse_spec(f"inputs {inputs}\noutputs {outputs}\nlead {lead}\n".replace(" \n", "\n") + text)


def random_shares(chance, spec):
    first = tuple(name for name in spec.outputs if chance.random() < 0.5)
    second = tuple(name for name in spec.outputs if name not in first)
    return tuple((tuple(name for name in spec.inputs if chance.random() < 0.6), said) for said in (first, second))


def part(names, chosen, letter):
    return sum(1 << k for k, name in enumerate(chosen) if letter >> names.index(name) & 1)


def slow_joined(spec, shares, pair, heard):
    """What a joint system says, signal by signal."""
    told = [slow_said(machine, [part(spec.inputs, seen, i) for i in heard]) for (seen, _), machine in zip(shares, pair)]
    found = []
    for letters in zip(*told):
        value = 0
        for k, name in enumerate(spec.outputs):
            for (_, said), letter in zip(shares, letters):
                if name in said and letter >> said.index(name) & 1:
                    value += 1 << k
        found.append(value)
    return found


class Joined(unittest.TestCase):
    def test_step_by_step(self):
        chance = random.Random(1)
        for k in range(150):
            spec = lively_spec(chance, 3, 3, lead=k % 6 - 3)
            shares = random_shares(chance, spec)
            pair = tuple(random_machine(chance, 1 << len(seen), 1 << len(said), spec.lead) for seen, said in shares)
            machine = joined(spec, shares, pair)
            self.assertEqual((machine.inputs, machine.outputs, machine.lead), (1 << len(spec.inputs), 1 << len(spec.outputs), spec.lead))
            self.assertTrue(is_numbered(machine))
            self.assertLessEqual(len(machine.rows), len(pair[0].rows) * len(pair[1].rows))
            heard = [chance.randrange(machine.inputs) for _ in range(15)]
            self.assertEqual(machine(heard), slow_joined(spec, shares, pair, heard))

    def test_the_states_are_the_pairs_that_are_reached(self):
        spec = spec_of("")
        turn = Machine(1, 1, 0, [], [[(1, 0)], [(0, 0)]])
        still = Machine(4, 4, 0, [], [[(0, 3)] * 4, [(1, 2)] * 4])
        found = joined(spec, (NOTHING, ALL), (turn, still))
        self.assertEqual(found.rows, (((1, 3),) * 4, ((0, 3),) * 4))
        # Pairs stay apart even if they do the same.
        found = joined(spec, ((("b",), ("y",)), (("b",), ("x",))), (Machine(2, 2, 0, [], [[(0, 0), (1, 1)], [(1, 0), (1, 1)]]), Machine(2, 2, 0, [], [[(0, 0), (0, 1)]])))
        self.assertEqual(found.rows, (((0, 0), (0, 0), (1, 3), (1, 3)), ((1, 0), (1, 0), (1, 3), (1, 3))))

    def test_mismatch(self):
        spec = spec_of("")
        shares = ((("a",), ("x",)), (("a", "b"), ("y",)))
        good = (Machine(2, 2, 0, [], [[(0, 0)] * 2]), Machine(4, 2, 0, [], [[(0, 0)] * 4]))
        joined(spec, shares, good)
        for pair in [good[::-1], (good[0], Machine(4, 2, 1, [], [[(0, 0)] * 4])), (Machine(2, 2, -1, [0], [[(0, 0)] * 2]), good[1]),
                     (Machine(2, 1, 0, [], [[(0, 0)] * 2]), good[1]), (Machine(1, 2, 0, [], [[(0, 0)]]), good[1]), (good[0], good[0])]:
            with self.assertRaises(Mismatch):
                joined(spec, shares, pair)


class Shares(unittest.TestCase):
    def test_what_are_none(self):
        spec = spec_of("")
        wrong = (Machine(1, 1, 2, [], [[(0, 0)]]),) * 2
        for shares in [((("a",), ("x",)), (("b",), ())), ((("a",), ("x", "y")), (("b",), ("y",))), ((("a",), ("y", "x")), (("b",), ())), ((("b", "a"), ("x",)), ((), ("y",))),
                       ((("a", "a"), ("x",)), ((), ("y",))), ((("x",), ("x",)), ((), ("y",))), ((("c",), ("x",)), ((), ("y",))), (((), ("x", "x")), ((), ("y",))),
                       (((), ("a",)), ((), ("x", "y"))), (((), ("x", "y", "z")), ((), ())), (((), ()), ((), ()))]:
            with self.assertRaises(InvalidShares):
                joined(spec, shares, wrong)
            with self.assertRaises(InvalidShares):
                joint_system(spec, shares, (1, 1))
        with self.assertRaises(Mismatch):
            joined(spec, (ALL, NOTHING), wrong)


class JointSystems(unittest.TestCase):
    def check(self, spec, shares, limits, chance):
        found = joint_system(spec, shares, limits)
        if found is None:
            if limits == (1, 1):
                kinds = [machines_of(1 << len(seen), 1 << len(said), spec.lead, 1) for seen, said in shares]
                for pair in itertools.product(*kinds):
                    self.assertIsNotNone(breaking_word(spec, joined(spec, shares, pair)))
            return False
        self.assertIs(type(found), tuple)
        for machine, limit in zip(found, limits):
            self.assertLessEqual(len(machine.rows), limit)
            self.assertTrue(is_numbered(machine))
        whole = joined(spec, shares, found)
        self.assertIsNone(breaking_word(spec, whole))
        for _ in range(3):
            self.assertTrue(slow_satisfies(spec, trace(whole, random_lasso(chance, whole.inputs))))
        again = joint_system(spec, shares, limits)
        self.assertEqual([vars(machine) for machine in again], [vars(machine) for machine in found])
        return True

    def test_known_answers(self):
        chance = random.Random(2)
        own = ((("a",), ("x",)), (("b",), ("y",)))
        crossed = ((("b",), ("x",)), (("a",), ("y",)))
        for text, lead, shares, wanted in [
                ("guarantee G(x <-> a) & G(y <-> b)\n", 0, own, (True, True, True, True)), ("guarantee G(x <-> a) & G(y <-> b)\n", 0, crossed, (False,) * 4),
                ("guarantee G(x <-> a) & G(y <-> Y b)\n", 0, own, (False, True, False, True)), ("guarantee G(x <-> Y a) & G(y <-> b)\n", 0, own, (False, False, True, True)),
                ("guarantee G(x <-> Y a) & G(y <-> Y b)\n", 0, own, (False, False, False, True)), ("guarantee G(X x <-> a) & G(X y <-> b)\n", -1, own, (True,) * 4),
                ("guarantee G(X x <-> b)\n", -1, own, (False,) * 4), ("guarantee G(x <-> y)\n", 0, own, (True,) * 4), ("guarantee G(x <-> y) & G F x & G F !x\n", 0, own, (False, False, False, True)),
                ("guarantee G(x | y) & G(!x | !y) & G F x & G F y\n", -1, own, (False, False, False, True)), ("guarantee G(x <-> (a & b))\n", 0, own, (False,) * 4),
                ("guarantee G((x & y) <-> (a & b))\n", 0, own, (True,) * 4), ("guarantee G((x <-> y) <-> (a <-> b))\n", 0, crossed, (True,) * 4),
                # The second machine cannot hear what the first one says.
                ("guarantee G(y <-> Y x) & G F x & G F !x\n", 0, (((), ("x",)), ((), ("y",))), (False, False, False, True)),
                ("assume G(a -> X b)\nguarantee G(x <-> a) & G(y -> b) & (G F a -> G F y)\n", 0, own, (True,) * 4), ("guarantee false\n", 0, own, (False,) * 4),
                ("guarantee G(x <-> Y a) & G(y <-> Y b)\n", 0, (ALL, NOTHING), (False,) * 4), ("guarantee G(x <-> Y a) & G(y <-> b)\n", 0, (ALL, NOTHING), (False, False, True, True)),
                ("guarantee exists h: G(h <-> X y) & G(h <-> b) & G(x <-> a)\n", -1, own, (False,) * 4), ("guarantee x <-> y\nnegated\n", 0, own, (True,) * 4)]:
            told = tuple(self.check(spec_of(text, lead), shares, limits, chance) for limits in [(1, 1), (1, 2), (2, 1), (2, 2)])
            self.assertEqual(told, wanted, text)

    def test_drawn_specifications(self):
        chance = random.Random(3)
        told = {True: 0, False: 0}
        for k in range(60):
            spec = lively_spec(chance, 2, 2, lead=-(k % 2), most=2)
            shares = random_shares(chance, spec)
            kept = {limits: self.check(spec, shares, limits, chance) for limits in [(1, 1), (1, 2), (2, 1), (2, 2)]}
            self.assertLessEqual(kept[1, 1], min(kept[1, 2], kept[2, 1]))
            self.assertLessEqual(max(kept[1, 2], kept[2, 1]), kept[2, 2])
            turned = joint_system(spec, shares[::-1], (2, 1)) is not None
            self.assertIs(turned, kept[1, 2])
            told[kept[2, 2]] += 1
        self.assertGreater(min(told.values()), 10)

    def test_all_in_one_hand(self):
        chance = random.Random(4)
        for k in range(50):
            spec = lively_spec(chance, 1, 1, lead=-(k % 2), most=3)
            for limit in (1, 2):
                wanted = smallest_system(spec, limit) is not None
                shares = ((spec.inputs, spec.outputs), ((), ()))
                self.assertIs(self.check(spec, shares, (limit, 1), chance), wanted)
                self.assertIs(self.check(spec, shares[::-1], (2, limit), chance), wanted)


if __name__ == "__main__":
    unittest.main()
