import itertools
import random
import unittest

from oracles import (letters_of, lively_spec, random_lasso, random_machine, random_spec, slow_emitted,
                     slow_normal, slow_satisfies)
from promiseplay.checking import breaking_word
from promiseplay.errors import InvalidLetter, InvalidSight, Mismatch
from promiseplay.machines import Machine
from promiseplay.minimization import minimize
from promiseplay.plays import play
from promiseplay.sight import completion, lifted, synthesize_sighted, visible
from promiseplay.specs import Spec
from promiseplay.spectext import parse_spec
from promiseplay.synthesis import Verdict, synthesize

LEADS = [-3, -2, -1, 0, 1, 2]


def spec_of(text, lead=0, inputs="a b", outputs="g"):
    return parse_spec(f"inputs {inputs}\noutputs {outputs}\nlead {lead}\n".replace(" \n", "\n") + text)


def slow_part(spec, seen, letter):
    """The visible part of a letter, signal by signal."""
    kept = list(seen) + list(spec.outputs)
    return sum(1 << k for k, name in enumerate(kept) if letter >> spec.signals.index(name) & 1)


def sights(spec):
    return [seen for n in range(len(spec.inputs) + 1) for seen in itertools.combinations(spec.inputs, n)]


class Visible(unittest.TestCase):
    def test_letters(self):
        spec = spec_of("", inputs="a b c", outputs="x y")
        word = ((1, 2, 4, 8, 16), (31, 0))
        self.assertEqual(visible(spec, ("a", "b", "c"), word), word)
        self.assertEqual(visible(spec, ("a", "c"), word), ((1, 0, 2, 4, 8), (15, 0)))
        self.assertEqual(visible(spec, ("b",), word), ((0, 1, 0, 2, 4), (7, 0)))
        self.assertEqual(visible(spec, (), word), ((0, 0, 0, 1, 2), (3, 0)))
        self.assertEqual(visible(spec, (), ((1, 2), (4,))), ((), (0,)))
        with self.assertRaises(InvalidLetter):
            visible(spec, ("a",), ((32,), (0,)))
        with self.assertRaises(InvalidLetter):
            visible(spec, (), ((), (32,)))

    def test_drawn_words(self):
        chance = random.Random(1)
        for _ in range(60):
            spec = random_spec(chance, signals=3)
            word = random_lasso(chance, 1 << len(spec.signals))
            for seen in sights(spec):
                found = visible(spec, seen, word)
                self.assertEqual(letters_of(found, 20), [slow_part(spec, seen, a) for a in letters_of(word, 20)])
                self.assertEqual(slow_normal(found), found)

    def test_what_is_no_sight(self):
        spec = spec_of("", inputs="a b c", outputs="x y")
        machine = Machine(2, 4, 0, [], [[(0, 0), (0, 0)]])
        for seen in [("b", "a"), ("a", "a"), ("x",), ("a", "x"), ("d",), ("a", "b", "c", "c"), ("c", "b", "a"), ("a", "c", "b")]:
            with self.assertRaises(InvalidSight):
                visible(spec, seen, ((), (99,)))
            with self.assertRaises(InvalidSight):
                lifted(spec, seen, machine)
            with self.assertRaises(InvalidSight):
                completion(spec, seen, ((), (99,)))
            with self.assertRaises(InvalidSight):
                synthesize_sighted(spec, seen)


class Lifted(unittest.TestCase):
    def test_what_it_emits(self):
        chance = random.Random(2)
        for k in range(60):
            spec = random_spec(chance, lead=LEADS[k % 6], signals=3)
            for seen in sights(spec):
                machine = random_machine(chance, 1 << len(seen), 1 << len(spec.outputs), spec.lead)
                found = lifted(spec, seen, machine)
                self.assertEqual((found.lead, found.opening, len(found.rows)), (machine.lead, machine.opening, len(machine.rows)))
                heard = [chance.randrange(1 << len(spec.inputs)) for _ in range(15)]
                self.assertEqual(slow_emitted(found, heard), slow_emitted(machine, [slow_part(spec, seen, i) for i in heard]))
                if len(seen) == len(spec.inputs):
                    self.assertEqual(found.rows, machine.rows)

    def test_mismatch(self):
        spec = spec_of("", inputs="a b", outputs="x")
        for machine in [Machine(4, 2, 0, [], [[(0, 0)] * 4]), Machine(2, 4, 0, [], [[(0, 0)] * 2]), Machine(2, 2, 1, [], [[(0, 0)] * 2]),
                        Machine(1, 2, 0, [], [[(0, 0)]]), Machine(2, 1, 0, [], [[(0, 0)] * 2]), Machine(2, 2, -1, [0], [[(0, 0)] * 2])]:
            with self.assertRaises(Mismatch):
                lifted(spec, ("b",), machine)
        self.assertEqual(lifted(spec, ("b",), Machine(2, 2, 0, [], [[(0, 0), (0, 1)]])).rows, (((0, 0), (0, 0), (0, 1), (0, 1)),))


class Completion(unittest.TestCase):
    def check(self, spec, seen, word, slowly):
        found = completion(spec, seen, word)
        if found is not None:
            self.assertEqual(slow_normal(found), found)
            self.assertFalse(slow_satisfies(spec, found))
            self.assertEqual(visible(spec, seen, found), slow_normal(word))
        elif slowly:
            # All words with this visible part, as far as their loops are short.
            choices = [[a for a in range(1 << len(spec.signals)) if slow_part(spec, seen, a) == part] for part in word[0] + word[1] * 2]
            for letters in itertools.product(*choices):
                cut = len(word[0])
                self.assertTrue(slow_satisfies(spec, (letters[:cut], letters[cut:])))
        return found

    def test_known_answers(self):
        spec = spec_of("guarantee G(a -> g)\n")
        self.assertEqual(completion(spec, ("a", "b"), ((), (1, 4))), ((), (1, 4)))
        self.assertIsNone(completion(spec, ("a", "b"), ((2,), (5, 4))))
        self.assertIsNone(completion(spec, ("b",), ((3,), (2,))))
        self.assertEqual(visible(spec, ("b",), completion(spec, ("b",), ((3, 1), (2,)))), ((3, 1), (2,)))
        self.assertIsNone(completion(spec, (), ((), (1,))))
        self.assertIsNotNone(completion(spec, (), ((1, 1, 0), (1,))))
        spec = spec_of("assume G F a\nguarantee G F g\n")
        self.assertIsNotNone(completion(spec, ("b",), ((1,), (0,))))
        self.assertIsNone(completion(spec, ("a",), ((1,), (0,))))

    def test_invalid_letters(self):
        spec = spec_of("guarantee G(a -> g)\n", inputs="a b c", outputs="g h")
        for seen, letters in [((), 4), (("b",), 8), (("a", "c"), 16), (("a", "b", "c"), 32)]:
            completion(spec, seen, ((), (letters - 1,)))
            with self.assertRaises(InvalidLetter):
                completion(spec, seen, ((), (letters,)))
            with self.assertRaises(InvalidLetter):
                completion(spec, seen, ((0, letters), (0,)))

    def test_against_a_slow_look(self):
        chance = random.Random(3)
        told = {True: 0, False: 0}
        for k in range(150):
            spec = lively_spec(chance, 2, 1, most=2) if k % 3 else random_spec(chance)
            seen = chance.choice(sights(spec))
            word = random_lasso(chance, 1 << len(seen) + len(spec.outputs), 2, 2)
            told[self.check(spec, seen, word, True) is None] += 1
            self.assertEqual(completion(spec, seen, word), completion(spec, seen, word))
        self.assertGreater(min(told.values()), 20)


class Sighted(unittest.TestCase):
    def check(self, spec, seen, chance):
        before = dict(vars(spec))
        verdict = synthesize_sighted(spec, seen)
        self.assertEqual(vars(spec), before)
        machine = verdict.machine
        self.assertIs(type(verdict), Verdict)
        self.assertIs(type(verdict.realizable), bool)
        self.assertEqual(minimize(machine).rows, machine.rows)
        if verdict.realizable:
            self.assertIsNone(breaking_word(spec, lifted(spec, seen, machine)))
            return True
        self.assertEqual((machine.inputs, machine.outputs, machine.lead), (1 << len(spec.outputs), 1 << len(seen), -1 - spec.lead))
        for _ in range(3):
            system = random_machine(chance, 1 << len(seen), 1 << len(spec.outputs), spec.lead)
            word = play(system, machine)
            found = completion(spec, seen, word)
            self.assertIsNotNone(found)
            self.assertFalse(slow_satisfies(spec, found))
            self.assertEqual(visible(spec, seen, found), word)
        return False

    def test_the_example(self):
        spec = parse_spec("inputs a b\noutputs g\nlead 0\nguarantee G(a -> g)\n")
        self.assertEqual(synthesize_sighted(spec, ("b",)).machine.rows, (((0, 1), (0, 1)),))
        self.assertIs(synthesize_sighted(spec, ()).realizable, True)

    def test_known_answers(self):
        chance = random.Random(4)
        for text, lead, wanted in [("guarantee G(g <-> a)\n", 0, [("a",), ("a", "b")]), ("guarantee G(g <-> (a <-> b))\n", 0, [("a", "b")]),
                                   ("guarantee G(g <-> Y a)\n", -1, [("a",), ("a", "b")]), ("guarantee G(g <-> Y a)\n", -2, []),
                                   ("assume G(b <-> X a)\nguarantee X G(g <-> a)\n", -1, [("b",), ("a", "b")]),
                                   ("assume G(b <-> a)\nguarantee G(g <-> a)\n", 0, [("a",), ("b",), ("a", "b")]),
                                   ("guarantee G(g <-> X a)\n", 1, [("a",), ("a", "b")]), ("guarantee G F a -> G F g\n", 0, [(), ("a",), ("b",), ("a", "b")]),
                                   ("guarantee (G F a) <-> (G F g)\n", -3, [("a",), ("a", "b")]), ("guarantee false\n", 2, []),
                                   ("guarantee G F a -> G F g\nguarantee F G !b -> F G !g\n", 0, []),
                                   ("guarantee exists h: G(h <-> g) & (h <-> b)\n", 0, [("b",), ("a", "b")]),
                                   ("guarantee g <-> a\nnegated\n", 0, [("a",), ("a", "b")])]:
            spec = spec_of(text, lead)
            told = [seen for seen in sights(spec) if self.check(spec, seen, chance)]
            self.assertEqual(told, wanted, text)

    def test_less_sight_never_helps(self):
        chance = random.Random(5)
        for k in range(70):
            spec = lively_spec(chance, 3, 2, lead=LEADS[k % 6])
            told = {seen: self.check(spec, seen, chance) for seen in sights(spec)}
            self.assertIs(told[spec.inputs], synthesize(spec).realizable)
            for seen, other in itertools.permutations(told, 2):
                if set(seen) <= set(other):
                    self.assertLessEqual(told[seen], told[other])

    def test_what_is_not_seen_stands_under_forall(self):
        chance = random.Random(6)
        told = {True: 0, False: 0}
        for k in range(120):
            spec = lively_spec(chance, 3, 2, lead=LEADS[k % 6], hidden=0)
            whole = ("true",)
            for prop in spec.guarantees:
                whole = ("and", whole, prop)
            for prop in spec.assumptions:
                whole = ("implies", prop, whole)
            whole = ("not", whole) if spec.negated else whole
            for seen in sights(spec):
                unseen = tuple(name for name in spec.inputs if name not in seen)
                other = Spec(seen, spec.outputs, spec.lead, [], [("forall", unseen, whole) if unseen else whole])
                wanted = synthesize(other).realizable
                self.assertIs(synthesize_sighted(spec, seen).realizable, wanted)
                told[wanted] += 1
        self.assertGreater(min(told.values()), 20)


if __name__ == "__main__":
    unittest.main()
