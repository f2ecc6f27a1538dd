import random
import unittest

from oracles import letters_of, random_lasso, random_spec, slow_normal, slow_satisfies
from promiseplay.errors import InvalidLetter
from promiseplay.monitors import Monitor
from promiseplay.prospects import prospects
from promiseplay.specs import dual
from promiseplay.spectext import parse_spec


def starts_with(lasso, word):
    return letters_of(lasso, len(word)) == list(word)


class Prospects(unittest.TestCase):
    def check(self, spec, word, chance, rounds=15):
        given = list(word)
        found = prospects(spec, word)
        self.assertEqual(word, given)
        self.assertIs(type(found), tuple)
        self.assertEqual(len(found), 2)
        for lasso, wanted in zip(found, (True, False)):
            if lasso is not None:
                self.assertEqual(slow_normal(lasso), lasso)
                self.assertTrue(starts_with(lasso, word))
                self.assertIs(slow_satisfies(spec, lasso), wanted)
            else:
                for _ in range(rounds):
                    head, loop = random_lasso(chance, 1 << len(spec.signals))
                    self.assertIs(slow_satisfies(spec, (tuple(word) + head, loop)), not wanted)
        self.assertEqual(prospects(spec, word), found)
        return found[0] is not None, found[1] is not None

    def test_known_answers(self):
        chance = random.Random(1)
        spec = parse_spec("inputs\noutputs g\nlead 0\nguarantee X g\n")
        for word, wanted in [([], (True, True)), ([1], (True, True)), ([0, 1], (True, False)), ([0, 0], (False, True)),
                             ([1, 1, 0, 0], (True, False))]:
            self.assertEqual(self.check(spec, word, chance), wanted)
        spec = parse_spec("inputs r\noutputs g\nlead -2\nassume G r\nguarantee G F g\nguarantee G !g\n")
        for word, wanted in [([], (True, True)), ([1, 1], (True, True)), ([1, 0], (True, False))]:
            self.assertEqual(self.check(spec, word, chance), wanted)
        spec = parse_spec("inputs r\noutputs g\nlead 0\nguarantee G F g\nguarantee F G !g\n")
        self.assertEqual(self.check(spec, [], chance), (False, True))
        self.assertEqual(self.check(spec, [3, 1], chance), (False, True))
        spec = parse_spec("inputs\noutputs\nlead 0\nnegated\n")
        self.assertEqual(prospects(spec, [0, 0]), (None, ((), (0,))))

    def test_specifications_of_all_kinds(self):
        chance = random.Random(2)
        seen = {}
        for _ in range(200):
            spec = random_spec(chance)
            letters = 1 << len(spec.signals)
            word = [chance.randrange(letters) for _ in range(chance.randint(0, 4))]
            told = self.check(spec, word, chance)
            seen[told] = seen.get(told, 0) + 1
        for told in [(True, True), (True, False), (False, True)]:
            self.assertGreater(seen[told], 10)
        self.assertNotIn((False, False), seen)

    def test_wrong_letters(self):
        spec = parse_spec("inputs r\noutputs g\nlead 0\n")
        for word in [[4], [-1], [0, 4], [0, 1, -2]]:
            with self.assertRaises(InvalidLetter):
                prospects(spec, word)
        self.assertEqual(prospects(spec, [3])[1], None)


def slow_table(spec, longest):
    """The verdicts on all words of at most some length, in the order of the words."""
    found = {}
    waiting = [()]
    while waiting:
        word = waiting.pop(0)
        good, bad = prospects(spec, list(word))
        found[word] = "open" if good and bad else "met" if good else "broken"
        if len(word) < longest:
            waiting.extend(word + (letter,) for letter in range(1 << len(spec.signals)))
    return found


class Monitors(unittest.TestCase):
    def test_the_example(self):
        monitor = Monitor(parse_spec("inputs\noutputs g\nlead 0\nguarantee X g\n"))
        self.assertEqual((monitor.verdicts, monitor.rows), (("open", "open", "broken", "met"), ((1, 1), (2, 3), (2, 2), (3, 3))))

    def test_attributes_and_reading(self):
        monitor = Monitor(parse_spec("inputs r\noutputs g\nlead 0\nguarantee G(r -> g)\n"))
        self.assertEqual((monitor.verdicts, monitor.rows, monitor.state), (("open", "broken"), ((0, 1, 0, 0), (1, 1, 1, 1)), 0))
        self.assertEqual({type(monitor.verdicts), type(monitor.rows), type(monitor.rows[0])}, {tuple})
        self.assertEqual(monitor.verdict, "open")
        self.assertEqual([monitor.read(letter) for letter in (0, 3, 2)], ["open"] * 3)
        self.assertEqual((monitor.state, monitor.verdict), (0, "open"))
        self.assertEqual(monitor.read(1), "broken")
        self.assertEqual((monitor.state, monitor.verdict), (1, "broken"))
        self.assertEqual(monitor.read(0), "broken")

    def test_wrong_letters_leave_the_state(self):
        monitor = Monitor(parse_spec("inputs r\noutputs g\nlead 0\nguarantee X g\n"))
        monitor.read(0)
        for letter in (-1, 4, 100):
            with self.assertRaises(InvalidLetter):
                monitor.read(letter)
            self.assertEqual(monitor.state, 1)
        self.assertEqual(monitor.read(3), "met")

    def test_liveness_is_open_for_ever(self):
        for text, verdicts in [("G F g", ("open",)), ("F G g & F r", ("open",)), ("F r", ("open", "met")),
                               ("G F g & G F r | F(g & !g)", ("open",)), ("G F g & F G !g", ("broken",)), ("true", ("met",)),
                               ("G F g | F G !g", ("met",)), ("G F g & G r", ("open", "broken"))]:
            monitor = Monitor(parse_spec(f"inputs r\noutputs g\nlead 0\nguarantee {text}\n"))
            self.assertEqual(monitor.verdicts, verdicts, text)

    def test_the_table_is_the_least_one(self):
        chance = random.Random(1)
        for _ in range(60):
            spec = random_spec(chance)
            monitor = Monitor(spec)
            n, letters = len(monitor.rows), 1 << len(spec.signals)
            self.assertEqual({len(row) for row in monitor.rows}, {letters})
            # No two states are alike: they are told apart by words of at most n letters.
            kinds = list(monitor.verdicts)
            for _ in range(n):
                kinds = [(kinds[s],) + tuple(kinds[t] for t in monitor.rows[s]) for s in range(n)]
                numbers = {kind: k for k, kind in enumerate(sorted(set(kinds), key=str))}
                kinds = [numbers[kind] for kind in kinds]
            self.assertEqual(len(set(kinds)), n)
            # States are numbered in the order in which they are first reached.
            order = [0]
            for k in range(n):
                self.assertLess(k, len(order))
                order.extend(t for t in dict.fromkeys(monitor.rows[order[k]]) if t not in order)
            self.assertEqual(order, list(range(n)))
            for word, verdict in slow_table(spec, {1: 3, 2: 3, 4: 2}.get(letters, 1)).items():
                state = 0
                for letter in word:
                    state = monitor.rows[state][letter]
                self.assertEqual(monitor.verdicts[state], verdict)

    def test_equal_meaning_equal_tables(self):
        texts = [("G(r -> F g) & (F G g | r)", "(r | F G g) & G(!F g -> !r)"), ("X(g U r)", "X(r | g & X(g U r))"),
                 ("g W r", "(g U r) | G g")]
        for one, other in texts:
            first = Monitor(parse_spec(f"inputs r\noutputs g\nlead 0\nguarantee {one}\n"))
            second = Monitor(parse_spec(f"inputs r\noutputs g\nlead 2\nguarantee {other}\n"))
            self.assertEqual((first.verdicts, first.rows), (second.verdicts, second.rows))
        first = Monitor(parse_spec("inputs r\noutputs g\nlead 0\nassume F r\nguarantee X g\nguarantee G r\n"))
        second = Monitor(parse_spec("inputs r\noutputs g\nlead 0\nguarantee (F r -> X g & G r)\n"))
        self.assertEqual((first.verdicts, first.rows), (second.verdicts, second.rows))

    def test_the_dual(self):
        exchange = {"open": "open", "met": "broken", "broken": "met"}
        chance = random.Random(2)
        for _ in range(80):
            spec = random_spec(chance)
            p, q = 1 << len(spec.inputs), 1 << len(spec.outputs)
            first, second = Monitor(spec), Monitor(dual(spec))
            for _ in range(12):
                letter = chance.randrange(p * q)
                self.assertEqual(second.read(letter // p + q * (letter % p)), exchange[first.read(letter)])

    def test_hidden_signals(self):
        monitor = Monitor(parse_spec("inputs r\noutputs g\nlead 0\nguarantee exists h: h & G(h <-> X !h) & G(h -> g)\n"))
        self.assertEqual((monitor.verdicts, monitor.rows),
                         (("open", "broken", "open"), ((1, 1, 2, 2), (1,) * 4, (0,) * 4)))
