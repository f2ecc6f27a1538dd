import random
import unittest

from oracles import lively_spec, random_machine
from promiseplay.checking import breaking_word
from promiseplay.errors import InvalidLetter, Mismatch, NotRealizable, NotSafe
from promiseplay.machines import Machine
from promiseplay.prospects import prospects
from promiseplay.shields import Shield, freedom, is_safe
from promiseplay.specs import Spec
from promiseplay.spectext import parse_spec
from promiseplay.synthesis import synthesize


def spec_of(text, lead=0, inputs="r", outputs="g"):
    return parse_spec(f"inputs {inputs}\noutputs {outputs}\nlead {lead}\n".replace(" \n", "\n") + text)


def said_exactly(spec, word):
    """A formula that is true of the words that begin with a word."""
    told = ("true",)
    for letter in reversed(word):
        now = ("next", told)
        for k, name in enumerate(spec.signals):
            sign = ("signal", name)
            now = ("and", now, sign if letter >> k & 1 else ("not", sign))
        told = now
    return told


def slow_allowed(spec, word, letter):
    """Whether the system can still keep all behind a word and a letter: asked of synthesize.

    The specification is given what was said up to here, for a system that says it again.
    """
    begun = word + [letter]
    heard = ("true",)
    inputs = 1 << len(spec.inputs)
    for turn, one in reversed(list(enumerate(begun))):
        now = ("next", heard) if turn < len(begun) - 1 else ("true",)
        for k, name in enumerate(spec.inputs):
            sign = ("signal", name)
            now = ("and", now, sign if one % inputs >> k & 1 else ("not", sign))
        heard = now
    other = Spec(spec.inputs, spec.outputs, 0, list(spec.assumptions) + [heard] if not spec.negated else [heard],
                 list(spec.guarantees) + [said_exactly(spec, begun)])
    return synthesize(other).realizable


class Safe(unittest.TestCase):
    def test_known_answers(self):
        for text, wanted in [("guarantee G g\n", True), ("guarantee F g\n", False), ("guarantee G(r -> F g)\n", False), ("guarantee X X g\n", True), ("guarantee !g W r\n", True),
                             ("guarantee !g U r\n", False), ("guarantee G F g | G g | true\n", True), ("guarantee false\n", True), ("", True), ("negated\n", True),
                             ("guarantee F g\nnegated\n", True), ("guarantee G g\nnegated\n", False), ("assume G r\nguarantee G g\n", False), ("assume F r\nguarantee G g\n", True),
                             ("assume r\nguarantee G g\n", True), ("guarantee G(g -> O r)\n", True), ("guarantee exists h: h & G(h <-> X !h) & G(h -> g)\n", True),
                             ("guarantee exists h: F h & G(h -> g)\n", False), ("guarantee forall h: F h | G(g | !h)\n", True), ("guarantee G F g\nguarantee G !g\n", True),
                             ("guarantee X G g\nguarantee F !g & G(X g -> g)\n", True), ("guarantee X G g | F(g & X !g)\n", False)]:
            for lead in (-3, 0, 2):
                self.assertIs(is_safe(spec_of(text, lead)), wanted, text)

    def test_words_that_do_not_satisfy_a_safe_specification_break_it(self):
        chance = random.Random(1)
        told = {True: 0, False: 0}
        for k in range(150):
            spec = lively_spec(chance, 2, 1, lead=k % 6 - 3)
            safe = is_safe(spec)
            told[safe] += 1
            bad = prospects(spec, [])[1]
            if safe and bad is not None:
                letters = list(bad[0]) + list(bad[1]) * 40
                self.assertTrue(any(prospects(spec, letters[:n])[0] is None for n in range(0, len(letters), 7)))
        self.assertGreater(min(told.values()), 30)


class Freedom(unittest.TestCase):
    def check(self, spec, chance):
        rows = freedom(spec)
        self.assertIs(type(rows), tuple)
        self.assertTrue(all(type(row) is tuple for row in rows))
        inputs, outputs = 1 << len(spec.inputs), 1 << len(spec.outputs)
        # All states are reached in the order of their numbers, and each has an answer to all that is heard.
        met = [0]
        for state in met:
            self.assertEqual(len(rows[state]), inputs * outputs)
            for target in rows[state]:
                if target not in met and target >= 0:
                    met.append(target)
            for heard in range(inputs):
                self.assertGreaterEqual(max(rows[state][heard::inputs]), 0)
        self.assertEqual(met, list(range(len(rows))))
        # Each two states are told apart by what is allowed behind some word.
        apart = {(s, t) for s in met for t in met if [a < 0 for a in rows[s]] != [b < 0 for b in rows[t]]}
        for _ in met:
            apart |= {(s, t) for s in met for t in met if any((a, b) in apart for a, b in zip(rows[s], rows[t]))}
        self.assertTrue(all((s, t) in apart for s in met for t in met if s != t))
        # Who says what is allowed keeps the specification.
        for _ in range(2):
            table = []
            for row in rows:
                answers = []
                for heard in range(inputs):
                    said = chance.choice([o for o in range(outputs) if row[heard + inputs * o] >= 0])
                    answers.append((row[heard + inputs * said], said))
                table.append(answers)
            self.assertIsNone(breaking_word(spec, Machine(inputs, outputs, 0, [], table)))
        # Who keeps it says what is allowed.
        machine = synthesize(spec).machine
        pairs = [(0, 0)]
        for state, at in pairs:
            for heard, (target, said) in enumerate(machine.rows[state]):
                later = rows[at][heard + inputs * said]
                self.assertGreaterEqual(later, 0)
                if (target, later) not in pairs:
                    pairs.append((target, later))
        self.assertEqual(freedom(spec), rows)
        return rows

    def test_known_tables(self):
        chance = random.Random(2)
        self.assertEqual(self.check(spec_of("guarantee G(r -> g)\n"), chance), ((0, -1, 0, 0),))
        self.assertEqual(self.check(spec_of(""), chance), ((0, 0, 0, 0),))
        self.assertEqual(self.check(spec_of("guarantee G(g -> X !g)\n"), chance), ((0, 0, 1, 1), (0, 0, -1, -1)))
        self.assertEqual(self.check(spec_of("guarantee X g\n"), chance), ((1, 1, 1, 1), (-1, -1, 2, 2), (2, 2, 2, 2)))
        # What cannot be kept later is not allowed now, though nothing is broken by it at once.
        self.assertEqual(self.check(spec_of("guarantee G(g -> X !r)\n"), chance), ((0, 0, -1, -1),))
        self.assertEqual(self.check(spec_of("guarantee g | X g\n"), chance), ((1, 1, 2, 2), (-1, -1, 2, 2), (2, 2, 2, 2)))
        self.assertEqual(self.check(spec_of("guarantee G(X g <-> r)\n", inputs="r", outputs="g"), chance), ((1, 2, 1, 2), (1, 2, -1, -1), (-1, -1, 1, 2)))
        self.assertEqual(self.check(spec_of("", inputs="", outputs=""), chance), ((0,),))

    def test_drawn_specifications(self):
        chance = random.Random(3)
        told = {"ok": 0, "safe": 0, "kept": 0}
        for _ in range(150):
            spec = lively_spec(chance, 2, 2, lead=0)
            if not is_safe(spec):
                told["safe"] += 1
                for call in (freedom, Shield):
                    with self.assertRaises(NotSafe):
                        call(spec)
            elif not synthesize(spec).realizable:
                told["kept"] += 1
                for call in (freedom, Shield):
                    with self.assertRaises(NotRealizable):
                        call(spec)
            else:
                told["ok"] += 1
                self.check(spec, chance)
        self.assertGreater(min(told.values()), 20)

    def test_against_a_slow_look(self):
        chance = random.Random(4)
        looked = {True: 0, False: 0}
        while min(looked.values()) < 12:
            spec = lively_spec(chance, 1, 1, lead=0, negated=False, most=2, hidden=0)
            if not is_safe(spec) or not synthesize(spec).realizable:
                continue
            rows = freedom(spec)
            state, word = 0, []
            for _ in range(3):
                letter = chance.randrange(len(rows[0]))
                wanted = slow_allowed(spec, word, letter)
                self.assertIs(rows[state][letter] >= 0, wanted)
                looked[wanted] += 1
                if not wanted:
                    break
                word.append(letter)
                state = rows[state][letter]

    def test_the_order_of_the_errors(self):
        for lead in (-3, -2, -1, 1, 2):
            for text in ("guarantee F !g & false | G F g\n", "guarantee false\n", ""):
                for call in (freedom, Shield):
                    with self.assertRaises(Mismatch):
                        call(spec_of(text, lead))
        for call in (freedom, Shield):
            with self.assertRaises(NotSafe):
                call(spec_of("guarantee F r\n"))
            with self.assertRaises(NotRealizable):
                call(spec_of("guarantee G r\n"))


class Shields(unittest.TestCase):
    def test_known_answers(self):
        shield = Shield(spec_of("guarantee G(r -> x)\nguarantee G(!x | !y)\n", outputs="x y"))
        self.assertEqual((shield.state, shield.changed, len(shield.rows)), (0, 0, 1))
        told = [shield.say(heard, wish) for heard, wish in [(0, 0), (0, 2), (0, 3), (1, 1), (1, 0), (1, 3), (1, 2)]]
        self.assertEqual((told, shield.changed), ([0, 2, 0, 1, 1, 1, 1], 4))

    def test_drawn_wishes(self):
        chance = random.Random(5)
        met = 0
        while met < 40:
            spec = lively_spec(chance, 2, 2, lead=0)
            if not is_safe(spec) or not synthesize(spec).realizable:
                continue
            met += 1
            shield = Shield(spec)
            rows = freedom(spec)
            self.assertEqual(shield.rows, rows)
            inputs, outputs = 1 << len(spec.inputs), 1 << len(spec.outputs)
            state, changed, word = 0, 0, []
            for _ in range(12):
                heard, wish = chance.randrange(inputs), chance.randrange(outputs)
                allowed = [o for o in range(outputs) if rows[state][heard + inputs * o] >= 0]
                wanted = wish if wish in allowed else min(allowed)
                changed += wish != wanted
                state = rows[state][heard + inputs * wanted]
                self.assertEqual(shield.say(heard, wish), wanted)
                self.assertEqual((shield.state, shield.changed), (state, changed))
                word.append(heard + inputs * wanted)
                for wrong in [(-1, 0), (inputs, 0), (0, -1), (0, outputs)]:
                    with self.assertRaises(InvalidLetter):
                        shield.say(*wrong)
                self.assertEqual((shield.state, shield.changed), (state, changed))
            self.assertIsNotNone(prospects(spec, word)[0])

    def test_shields_do_not_share_anything(self):
        spec = spec_of("guarantee G(g -> X !g)\n")
        first, second = Shield(spec), Shield(spec)
        self.assertEqual([first.say(0, 1), first.say(0, 1)], [1, 0])
        self.assertEqual((first.changed, second.changed, second.state), (1, 0, 0))

    def test_a_shield_before_any_machine(self):
        chance = random.Random(6)
        spec = spec_of("guarantee G(r -> X g) & G(g -> Y r)\n")
        for _ in range(20):
            machine = random_machine(chance, 2, 2, 0)
            shield = Shield(spec)
            heard = [chance.randrange(2) for _ in range(20)]
            word = [i + 2 * shield.say(i, wish) for i, wish in zip(heard, machine(heard))]
            self.assertIsNotNone(prospects(spec, word)[0])


if __name__ == "__main__":
    unittest.main()
