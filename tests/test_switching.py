import random
import unittest

from oracles import letters_of, lively_spec, random_lasso, random_machine, slow_normal, slow_satisfies
from promiseplay.checking import breaking_word
from promiseplay.errors import Mismatch
from promiseplay.machines import Machine, trace
from promiseplay.spectext import parse_spec
from promiseplay.switching import alike_pairs, safe_pairs, switch_trouble, switched
from promiseplay.synthesis import synthesize

LEADS = [-3, -2, -1, 0, 1, 2]


def spec_of(text, lead=0, inputs="r", outputs="g"):
    return parse_spec(f"inputs {inputs}\noutputs {outputs}\nlead {lead}\n".replace(" \n", "\n") + text)


def slow_switched(old, new, u, t, rest, turns):
    """The first letters of what is heard and said, place by place."""
    heard = list(u) + letters_of(rest, turns + 3)
    state, emitted = 0, []
    for turn, letter in enumerate(heard):
        if turn == len(u):
            state = t
        state, told = (old if turn < len(u) else new).rows[state][letter]
        emitted.append(told)
    said = [emitted[n + old.lead] if n + old.lead >= 0 else old.opening[n] for n in range(turns)]
    return [i + old.inputs * o for i, o in zip(heard, said)]


def after(machine, word):
    state = 0
    for letter in word:
        state = machine.rows[state][letter][0]
    return state


def met_states(machine):
    met = [0]
    for state in met:
        met.extend(dict.fromkeys(target for target, _ in machine.rows[state] if target not in met))
    return set(met)


class Switching(unittest.TestCase):
    def check(self, spec, old, new, chance):
        safe = safe_pairs(spec, old, new)
        self.assertIs(type(safe), tuple)
        self.assertEqual(list(safe), sorted(safe))
        self.assertEqual(safe_pairs(spec, old, new), safe)
        for s in range(len(old.rows)):
            for t in range(len(new.rows)):
                found = switch_trouble(spec, old, new, s, t)
                self.assertIs(found is None, (s, t) in safe)
                if found is None:
                    continue
                self.assertIs(type(found), tuple)
                u, rest = found
                self.assertIs(type(u), list)
                self.assertEqual(after(old, u), s)
                self.assertEqual(slow_normal(rest), rest)
                word = switched(old, new, u, t, rest)
                self.assertEqual(letters_of(word, 40), slow_switched(old, new, u, t, rest, 40))
                self.assertFalse(slow_satisfies(spec, word))
                self.assertEqual(switch_trouble(spec, old, new, s, t), found)
        for s in set(range(len(old.rows))) - met_states(old):
            self.assertTrue({(s, t) for t in range(len(new.rows))} <= set(safe))
        for _ in range(15):
            u = [chance.randrange(old.inputs) for _ in range(chance.randint(0, 5))]
            t = chance.randrange(len(new.rows))
            rest = random_lasso(chance, old.inputs)
            word = switched(old, new, u, t, rest)
            self.assertEqual(slow_normal(word), word)
            self.assertEqual(letters_of(word, 30), slow_switched(old, new, u, t, rest, 30))
            if (after(old, u), t) in safe:
                self.assertTrue(slow_satisfies(spec, word))
        return safe

    def test_known_answers(self):
        chance = random.Random(1)
        spec = spec_of("guarantee G(g <-> Y r)\n")
        keep = Machine(2, 2, 0, [], [[(0, 0), (1, 0)], [(0, 1), (1, 1)]])
        turned = Machine(2, 2, 0, [], [[(1, 1), (0, 1)], [(1, 0), (0, 0)]])
        self.assertEqual(self.check(spec, keep, keep, chance), ((0, 0), (1, 1)))
        self.assertEqual(self.check(spec, keep, turned, chance), ((0, 1), (1, 0)))
        silent = Machine(2, 2, 0, [], [[(0, 0), (0, 0)], [(0, 1), (1, 1)]])
        self.assertEqual(self.check(spec, silent, keep, chance), ((1, 0), (1, 1)))
        self.assertEqual(self.check(spec_of("guarantee F g\n"), keep, keep, chance), ((0, 1), (1, 1)))
        self.assertEqual(self.check(spec_of("guarantee F g | G !g\n"), keep, turned, chance), ((0, 0), (0, 1), (1, 0), (1, 1)))
        # What the old system promised binds the new one.
        spec = spec_of("guarantee X g <-> g\nguarantee G(Y Y true -> !g)\n", -1)
        one = Machine(2, 2, -1, [1], [[(1, 1), (1, 1)], [(1, 0), (1, 0)]])
        none = Machine(2, 2, -1, [0], [[(1, 0), (1, 0)], [(1, 0), (1, 0)]])
        self.assertEqual(self.check(spec, one, none, chance), ((1, 0), (1, 1)))
        self.assertEqual(self.check(spec, none, one, chance), ((0, 1), (1, 1)))

    def test_machines_of_all_kinds(self):
        chance = random.Random(2)
        told = {True: 0, False: 0}
        for k in range(90):
            spec = lively_spec(chance, 2, 2, lead=LEADS[k % 6], most=2)
            verdict = synthesize(spec)
            pair = []
            for _ in range(2):
                good = verdict.realizable and chance.random() < 0.6 and len(verdict.machine.rows) < 8
                pair.append(verdict.machine if good else random_machine(chance, 1 << len(spec.inputs), 1 << len(spec.outputs), spec.lead))
            safe = self.check(spec, pair[0], pair[1], chance)
            for s in range(len(pair[0].rows)):
                for t in range(len(pair[1].rows)):
                    told[(s, t) in safe] += 1
            if breaking_word(spec, pair[0]) is None:
                self.assertTrue(set(alike_pairs(*pair)) <= set(safe))
        self.assertGreater(min(told.values()), 100)

    def test_nothing_is_exchanged_by_an_alike_machine(self):
        chance = random.Random(3)
        for k in range(60):
            machine = random_machine(chance, 2, 2, LEADS[k % 6], 4)
            u = [chance.randrange(2) for _ in range(chance.randint(0, 4))]
            rest = random_lasso(chance, 2)
            self.assertEqual(switched(machine, machine, u, after(machine, u), rest), trace(machine, slow_normal((tuple(u) + rest[0], rest[1]))))

    def test_mismatch(self):
        spec = spec_of("guarantee g\n")
        good = Machine(2, 2, 0, [], [[(0, 0)] * 2])
        for other in [Machine(2, 2, 1, [], [[(0, 0)] * 2]), Machine(1, 2, 0, [], [[(0, 0)]]), Machine(2, 1, 0, [], [[(0, 0)] * 2])]:
            for pair in [(good, other), (other, good)]:
                with self.assertRaises(Mismatch):
                    safe_pairs(spec, *pair)
                with self.assertRaises(Mismatch):
                    switch_trouble(spec, *pair, 0, 0)
                with self.assertRaises(Mismatch):
                    switched(*pair, [], 0, ((), (0,)))
            with self.assertRaises(Mismatch):
                safe_pairs(spec, other, other)
        self.assertEqual(switched(Machine(3, 3, -1, [2], [[(0, 1)] * 3]), Machine(3, 3, -1, [0], [[(0, 0)] * 3]), [2], 0, ((1,), (0,))), ((8, 4), (0,)))


class Alike(unittest.TestCase):
    def test_against_a_slow_look(self):
        chance = random.Random(4)
        told = {True: 0, False: 0}
        for k in range(100):
            inputs, outputs = chance.randint(1, 3), chance.randint(1, 2)
            old = random_machine(chance, inputs, outputs, LEADS[k % 6])
            new = random_machine(chance, inputs, outputs, LEADS[k // 6 % 6])
            found = alike_pairs(old, new)
            self.assertIs(type(found), tuple)
            self.assertEqual(list(found), sorted(found))
            pairs = {(s, t) for s in range(len(old.rows)) for t in range(len(new.rows))}
            alike = set(pairs)
            for _ in pairs:
                alike = {(s, t) for s, t in alike if all(one[1] == other[1] and (one[0], other[0]) in alike for one, other in zip(old.rows[s], new.rows[t]))}
            self.assertEqual(set(found), alike)
            for pair in pairs:
                told[pair in alike] += 1
        self.assertGreater(min(told.values()), 50)

    def test_mismatch(self):
        good = Machine(2, 2, 0, [], [[(0, 0)] * 2])
        self.assertEqual(alike_pairs(good, Machine(2, 2, -1, [1], [[(0, 0)] * 2, [(0, 1)] * 2])), ((0, 0),))
        for other in [Machine(1, 2, 0, [], [[(0, 0)]]), Machine(2, 3, 0, [], [[(0, 0)] * 2])]:
            with self.assertRaises(Mismatch):
                alike_pairs(good, other)
            with self.assertRaises(Mismatch):
                alike_pairs(other, good)


if __name__ == "__main__":
    unittest.main()
