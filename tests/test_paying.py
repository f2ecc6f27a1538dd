import random
import unittest

from oracles import letters_of, lively_spec, machines_of, random_lasso, random_machine, slow_normal, slow_satisfies
from promiseplay.checking import breaking_word
from promiseplay.errors import InvalidLetter, InvalidPrices, Mismatch
from promiseplay.machines import Machine, trace
from promiseplay.minimization import minimize
from promiseplay.paying import PricedVerdict, is_short, money_trouble, synthesize_priced
from promiseplay.plays import play
from promiseplay.spectext import parse_spec
from promiseplay.synthesis import synthesize

LEADS = [-3, -2, -1, 0, 1, 2]


def spec_of(text, lead=0, inputs="r", outputs="g"):
    return parse_spec(f"inputs {inputs}\noutputs {outputs}\nlead {lead}\n".replace(" \n", "\n") + text)


def slow_short(prices, capacity, start, word):
    amount = start
    for letter in letters_of(word, len(word[0]) + (capacity + 2) * len(word[1])):
        amount = min(amount + prices[letter], capacity)
        if amount < 0:
            return True
    return False


class Short(unittest.TestCase):
    def test_against_a_slow_look(self):
        chance = random.Random(1)
        told = {True: 0, False: 0}
        spec = spec_of("")
        for _ in range(300):
            prices = tuple(chance.randint(-3, 3) for _ in range(4))
            capacity = chance.choice([0, 1, 3, 10, 40])
            start = chance.randint(0, capacity)
            word = random_lasso(chance, 4)
            found = is_short(spec, prices, capacity, start, word)
            self.assertIs(found, slow_short(prices, capacity, start, word))
            told[found] += 1
        self.assertGreater(min(told.values()), 50)

    def test_bounds(self):
        spec = spec_of("")
        self.assertIs(is_short(spec, (-1, 0, 0, 1000), 1000, 1000, ((0,) * 1000, (1,))), False)
        self.assertIs(is_short(spec, (-1, 0, 0, 1000), 1000, 1000, ((0,) * 1001, (1,))), True)
        self.assertIs(is_short(spec, (-1000, 0, 0, 1000), 1000, 0, ((3, 3, 0), (1,))), False)
        self.assertIs(is_short(spec, (-1000, 0, 0, 1000), 1000, 0, ((3, 3, 0, 0), (1,))), True)
        good = (0, 0, 0, 0)
        for prices, capacity, start in [((0, 0, 0), 0, 0), ((0,) * 5, 0, 0), ((0, 0, 0, 1001), 5, 0), ((0, 0, -1001, 0), 5, 0), (good, -1, 0),
                                        (good, 1001, 0), (good, 5, -1), (good, 5, 6)]:
            with self.assertRaises(InvalidPrices):
                is_short(spec, prices, capacity, start, ((), (99,)))
        with self.assertRaises(InvalidLetter):
            is_short(spec, good, 5, 5, ((4,), (0,)))
        with self.assertRaises(InvalidLetter):
            is_short(spec, good, 5, 5, ((), (4,)))


class Priced(unittest.TestCase):
    def check(self, spec, prices, capacity, chance, rounds=4):
        """Look at the verdict from all sides; return the need."""
        before = dict(vars(spec))
        verdict = synthesize_priced(spec, prices, capacity)
        self.assertEqual(vars(spec), before)
        self.assertIs(type(verdict), PricedVerdict)
        machine = verdict.machine
        self.assertEqual(minimize(machine).rows, machine.rows)
        inputs, outputs = 1 << len(spec.inputs), 1 << len(spec.outputs)
        if verdict.need is not None:
            self.assertIsNone(breaking_word(spec, machine))
            for start in {verdict.need, (verdict.need + capacity) // 2, capacity}:
                self.assertIsNone(money_trouble(spec, prices, capacity, start, machine))
            for _ in range(rounds):
                word = trace(machine, random_lasso(chance, inputs))
                self.assertTrue(slow_satisfies(spec, word))
                self.assertFalse(slow_short(prices, capacity, verdict.need, word))
            if verdict.need > 0:
                self.assertIsNotNone(money_trouble(spec, prices, capacity, verdict.need - 1, machine))
            return verdict.need
        self.assertEqual((machine.inputs, machine.outputs, machine.lead), (outputs, inputs, -1 - spec.lead))
        for _ in range(rounds):
            word = play(random_machine(chance, inputs, outputs, spec.lead), machine)
            self.assertTrue(slow_short(prices, capacity, capacity, word) or not slow_satisfies(spec, word))
        return None

    def test_known_needs(self):
        chance = random.Random(2)
        for text, lead, prices, told in [
                ("", 0, (0, 0, 0, 0), {0: 0, 7: 0}), ("", 0, (-1, -1, -1, -1), {0: None, 1000: None}), ("", 0, (1, -1, -1, -1), {9: None}),
                ("", 0, (0, -2, -1, 0), {0: 0}), ("", -1, (0, -2, -1, 0), {0: None, 9: None}), ("", -1, (0, -2, 1, 0), {0: 0}), ("", -1, (1, 1, 1, -2), {0: 0, 9: 0}),
                ("guarantee G(r -> F g)\n", 0, (2, 1, -3, -5), {2: None, 4: None, 5: 0, 9: 0}),
                ("guarantee g & X g & XX g\n", 0, (0, 0, -3, -4), {3: None, 11: None, 12: 12, 13: 12, 1000: 12}),
                ("guarantee g & X g & XX g\n", 1, (0, 0, -3, -4), {11: None, 12: 12}), ("guarantee g & X g & XX g\n", 2, (0, 0, -3, -4), {11: None, 12: 12}),
                ("guarantee g & X g & XX g\n", -1, (0, 0, -3, -4), {11: None, 12: 12}), ("guarantee g & X g & XX g\n", -3, (0, 0, -3, -4), {11: None, 12: 12}),
                ("guarantee G F g\n", 0, (0, 0, -1, -1), {9: None}), ("guarantee G F g\n", 0, (1, 0, -9, -9), {9: None}),
                ("assume G F !r\nguarantee G F g\n", 0, (1, 0, -9, -9), {8: None, 9: 0}), ("guarantee g <-> X r\n", 0, (1, 1, 1, 1), {9: None}),
                ("guarantee F(g & r)\n", 0, (1, 1, 1, 1), {9: None}), ("guarantee F g\nnegated\n", 2, (0, 0, -1, -1), {0: 0}),
                ("assume G F r\nguarantee G F (g & Y !g)\n", -2, (-1, 2, -1, 2), {0: None, 9: None}),
                ("guarantee g\n", 0, (0, 0, -1000, -1000), {999: None, 1000: 1000})]:
            for capacity, wanted in told.items():
                self.assertEqual(self.check(spec_of(text, lead), prices, capacity, chance), wanted, (text, lead, capacity))

    def test_specifications_of_all_kinds(self):
        chance = random.Random(3)
        told = {None: 0, 0: 0, 1: 0}
        for k in range(240):
            spec = lively_spec(chance, 2 if k % 4 == 0 else 1, 1, lead=LEADS[k % 6], most=2, hidden=0.05)
            if not synthesize(spec).realizable and chance.random() < 0.7:
                continue
            letters = 1 << len(spec.signals)
            inputs = 1 << len(spec.inputs)
            width = chance.choice([0, 1, 2, 4])
            # Speaking costs, being silent brings something in.
            prices = [chance.randint(-width, 0) if letter >= inputs else chance.randint(0, 2) for letter in range(letters)]
            if chance.random() < 0.4:
                prices = [chance.randint(-2, 3) for _ in range(letters)]
            capacity = chance.choice([0, 1, 2, 3, 5, 9, 30])
            need = self.check(spec, tuple(prices), capacity, chance)
            told[need if need in (None, 0) else 1] += 1
            if min(prices) >= 0:
                self.assertEqual(need == 0, synthesize(spec).realizable)
        self.assertGreater(min(told.values()), 2, told)

    def test_below_the_need_no_small_system_lives(self):
        chance = random.Random(4)
        met = 0
        while met < 8:
            spec = lively_spec(chance, 1, 1, lead=chance.randint(-1, 1), most=2, hidden=0)
            prices = tuple(chance.randint(-3, 2) for _ in range(1 << len(spec.signals)))
            need = synthesize_priced(spec, prices, 6).need
            if need is None or need > 0:
                met += 1
                start = 6 if need is None else need - 1
                for machine in machines_of(1 << len(spec.inputs), 1 << len(spec.outputs), spec.lead, 1):
                    self.assertIsNotNone(money_trouble(spec, prices, 6, start, machine))
                for _ in range(40):
                    machine = random_machine(chance, 1 << len(spec.inputs), 1 << len(spec.outputs), spec.lead)
                    self.assertIsNotNone(money_trouble(spec, prices, 6, start, machine))

    def test_the_greatest_purse(self):
        chance = random.Random(5)
        for lead in LEADS:
            spec = spec_of("guarantee G(r -> F g)\nguarantee G(g -> X !g)\n", lead)
            # A word that runs long is too much for the slow look.
            self.assertIsNone(self.check(spec, (3, -1, -1000, -1000), 1000, chance, 0))
            self.assertEqual(self.check(spec, (1, 1, -700, -600), 1000, chance, 0), 0)

    def test_invalid_prices(self):
        spec = spec_of("guarantee g\n")
        for prices, capacity in [((0, 0, 0), 5), ((0,) * 5, 5), ((0, 1001, 0, 0), 5), ((0, 0, 0, -1001), 5), ((0,) * 4, -1), ((0,) * 4, 1001)]:
            with self.assertRaises(InvalidPrices):
                synthesize_priced(spec, prices, capacity)
            with self.assertRaises(InvalidPrices):
                money_trouble(spec, prices, capacity, -5, Machine(1, 1, 0, [], [[(0, 0)]]))


class Trouble(unittest.TestCase):
    def test_drawn_machines(self):
        chance = random.Random(6)
        told = {True: 0, False: 0}
        for k in range(300):
            spec = lively_spec(chance, 1, 1, lead=LEADS[k % 6], most=1)
            letters = 1 << len(spec.signals)
            prices = tuple(chance.randint(-2, 4) for _ in range(letters))
            capacity = chance.choice([0, 1, 4, 20])
            start = chance.randint(0, capacity)
            verdict = synthesize(spec)
            machine = verdict.machine
            if not verdict.realizable or chance.random() < 0.4:
                machine = random_machine(chance, 1 << len(spec.inputs), 1 << len(spec.outputs), spec.lead)
            found = money_trouble(spec, prices, capacity, start, machine)
            self.assertEqual(money_trouble(spec, prices, capacity, start, machine), found)
            told[found is None] += 1
            if found is not None:
                self.assertEqual(slow_normal(found), found)
                word = trace(machine, found)
                self.assertTrue(slow_short(prices, capacity, start, word) or not slow_satisfies(spec, word))
            else:
                for _ in range(10):
                    word = trace(machine, random_lasso(chance, machine.inputs))
                    self.assertTrue(slow_satisfies(spec, word))
                    self.assertFalse(slow_short(prices, capacity, start, word))
        self.assertGreater(min(told.values()), 40)

    def test_a_slow_loss(self):
        spec = spec_of("guarantee true\n")
        machine = Machine(2, 2, 0, [], [[(1, 0), (0, 0)], [(0, 1), (0, 0)]])
        found = money_trouble(spec, (3, 0, -4, 0), 1000, 1000, machine)
        self.assertEqual(found, ((), (0,)))
        self.assertTrue(slow_short((3, 0, -4, 0), 1000, 1000, trace(machine, found)))
        self.assertIsNone(money_trouble(spec, (4, 0, -4, 0), 4, 4, machine))
        self.assertIsNotNone(money_trouble(spec, (4, 0, -4, 0), 3, 3, machine))

    def test_the_order_of_the_errors(self):
        spec = spec_of("guarantee g\n")
        machine = Machine(2, 2, 0, [], [[(0, 1), (0, 1)]])
        self.assertIsNone(money_trouble(spec, (0, 0, 0, 0), 1000, 1000, machine))
        for other in [Machine(2, 2, 1, [], [[(0, 1), (0, 1)]]), Machine(1, 2, 0, [], [[(0, 0)]]), Machine(2, 1, 0, [], [[(0, 0), (0, 0)]])]:
            with self.assertRaises(Mismatch):
                money_trouble(spec, (0, 0, 0, 0), 5, 6, other)
        for start in (-1, 6):
            with self.assertRaises(InvalidPrices):
                money_trouble(spec, (0, 0, 0, 0), 5, start, machine)


if __name__ == "__main__":
    unittest.main()
