import itertools
import random
import unittest

from oracles import random_automaton, random_formula, slow_accepts
from promiseplay.buchi import Automaton, accepts
from promiseplay.congruence import exponent, separating_context
from promiseplay.parsing import parse_property
from promiseplay.translation import translate


def made_word(context, word):
    """The lasso that a context makes of a finite word."""
    if context[0] == "linear":
        _, x, y, z = context
        return x + tuple(word) + y, z
    _, x, y = context
    return x, tuple(word) + y


def slow_monoid(automaton):
    """A shortest word for each thing that words can do to the states of an automaton."""
    n = len(automaton.rows)

    def letter(a):
        return frozenset((s, t, t in automaton.accepting) for s in range(n) for t in automaton.rows[s][a])

    def times(one, other):
        return frozenset((s, u, seen or more) for s, t, seen in one for v, u, more in other if t == v)

    words = {letter(a): (a,) for a in reversed(range(automaton.letters))}
    waiting = list(words)
    while waiting:
        here = waiting.pop(0)
        for a in range(automaton.letters):
            later = times(here, letter(a))
            if later not in words:
                words[later] = words[here] + (a,)
                waiting.append(later)
    return list(words.values())


def slow_classes(automaton, words):
    """What all contexts made of some words tell of each of them: the same for congruent words."""
    empty = [()] + words
    contexts = [("circular", x, y) for x in empty for y in empty]
    contexts += [("linear", x, y, z) for x in empty for y in empty for z in words]

    def told(word):
        return tuple(accepts(automaton, made_word(context, word)) for context in contexts)
    return told


def slow_exponent(automaton):
    """The exponent, by all contexts and all words up to what they do to the states."""
    words = slow_monoid(automaton)
    told = slow_classes(automaton, words)
    greatest = 1
    for word in words:
        powers = [told(word)]
        while True:
            later = told(word * (len(powers) + 1))
            if later == powers[-1]:
                break
            if later in powers:
                return None
            powers.append(later)
        greatest = max(greatest, len(powers))
    return greatest


class Separating(unittest.TestCase):
    def check(self, automaton, first, second):
        before = list(first), list(second)
        found = separating_context(automaton, first, second)
        self.assertIs(separating_context(automaton, second, first) is None, found is None)
        self.assertEqual((first, second), before)
        self.assertEqual(separating_context(automaton, first, second), found)
        if found is not None:
            self.assertIn((found[0], len(found)), [("linear", 4), ("circular", 3)])
            self.assertEqual({type(part) for part in found[1:]}, {tuple})
            if found[0] == "linear":
                self.assertGreater(len(found[3]), 0)
            self.assertIsNot(accepts(automaton, made_word(found, first)), accepts(automaton, made_word(found, second)))
        return found

    def test_known_answers(self):
        ends_with_zeros = Automaton(2, [0], [1], [[[0, 1], [0]], [[1], []]])
        self.assertIsNone(self.check(ends_with_zeros, [0], [0, 0]))
        self.assertIsNotNone(self.check(ends_with_zeros, [0], [1]))
        self.assertIsNone(self.check(ends_with_zeros, [1], [1, 0]))
        self.assertIsNone(self.check(ends_with_zeros, [0, 1], [1, 0, 0]))
        even = Automaton(2, [0], [0], [[[1], []], [[0], [1]]])
        self.assertIsNotNone(self.check(even, [0], [0, 0]))
        self.assertIsNone(self.check(even, [0, 0], [0, 0, 0, 0]))
        # Only the letters of one turn are told apart, and only at the very beginning.
        first = Automaton(2, [0], [1], [[[1], []], [[1], [1]]])
        self.assertEqual(self.check(first, [0, 1], [1, 1])[0], "linear")
        self.assertIsNone(self.check(first, [0, 1], [0, 0, 0]))
        # Only what comes again and again is told apart.
        often = translate(parse_property("G F a", ["a"]), ["a"])
        self.assertEqual(self.check(often, [1, 0], [0, 0])[0], "circular")
        self.assertIsNone(self.check(often, [1, 0], [0, 1, 1]))

    def test_contexts_that_must_be_long(self):
        # Only with exactly two letters ahead does the first letter stand in turn 2.
        later = translate(parse_property("X X a", ["a"]), ["a"])
        found = self.check(later, [0, 1, 1], [1, 1, 1])
        self.assertEqual(len(found[1]), 2)
        # From state 0 only 1, then 0, then 2 without end is accepted.
        chain = Automaton(4, [0], [2], [[[], [1], [], [0]], [[2], [], [], []], [[], [], [2], []]])
        self.assertEqual(self.check(chain, [3], [3, 1, 3])[2:], ((1, 0), (2,)))

    def test_equal_words_and_powers(self):
        chance = random.Random(1)
        for _ in range(60):
            automaton = Automaton(*random_automaton(chance, 3, 4))
            word = [chance.randrange(automaton.letters) for _ in range(chance.randint(1, 5))]
            self.assertIsNone(self.check(automaton, word, list(word)))
            self.check(automaton, word, word * 2)
            self.check(automaton, word * 2, word * 3)

    def test_against_all_contexts(self):
        chance = random.Random(2)
        told = {True: 0, False: 0}
        for _ in range(60):
            automaton = Automaton(*random_automaton(chance, 2, 2))
            words = slow_monoid(automaton)
            if len(words) > 25:
                continue
            classes = slow_classes(automaton, words)
            for _ in range(6):
                pair = [[chance.randrange(automaton.letters) for _ in range(chance.randint(1, 4))] for _ in range(2)]
                found = self.check(automaton, *pair)
                self.assertIs(found is None, classes(tuple(pair[0])) == classes(tuple(pair[1])))
                told[found is None] += 1
        self.assertGreater(min(told.values()), 10)

    def test_three_states_and_four_letters(self):
        chance = random.Random(3)
        for _ in range(60):
            m, initial, accepting, rows = random_automaton(chance, 3, 4)
            automaton = Automaton(m, initial, accepting, rows)
            for _ in range(4):
                pair = [[chance.randrange(m) for _ in range(chance.randint(1, 4))] for _ in range(2)]
                if self.check(automaton, *pair) is None:
                    for _ in range(30):
                        x, y, z = [tuple(chance.randrange(m) for _ in range(chance.randint(0, 3))) for _ in range(3)]
                        for context in [("linear", x, y, z + (0,)), ("circular", x, y)]:
                            words = [slow_accepts(rows, initial, accepting, made_word(context, word)) for word in pair]
                            self.assertEqual(words[0], words[1])


class Exponents(unittest.TestCase):
    def test_the_example(self):
        self.assertIsNone(exponent(Automaton(2, [0], [0], [[[1], []], [[0], [1]]])))

    def test_known_answers(self):
        # The words that begin with k zeros and then have ones alone: zeros are told apart up to k + 1.
        for k in range(1, 3):
            rows = [[[s + 1], []] for s in range(k)] + [[[], [k]]]
            self.assertEqual(exponent(Automaton(2, [0], [k], rows)), k + 1)
        self.assertEqual(exponent(Automaton(1, [0], [0], [[[0]]])), 1)
        self.assertEqual(exponent(Automaton(3, [], [], [[[0], [0], [0]]])), 1)
        # The zeros are counted in threes.
        self.assertIsNone(exponent(Automaton(2, [0], [0], [[[1], []], [[2], []], [[0], [1]]])))

    def test_against_all_contexts(self):
        chance = random.Random(4)
        seen = {}
        for _ in range(120):
            automaton = Automaton(*random_automaton(chance, 2, 2))
            if len(slow_monoid(automaton)) > 12:
                continue
            found = exponent(automaton)
            self.assertEqual(found, slow_exponent(automaton))
            seen[found] = True
        self.assertGreaterEqual(set(seen), {1, 2})
        self.assertIsNone(slow_exponent(Automaton(2, [0], [0], [[[1], []], [[0], [1]]])))

    def test_automata_of_formulas_are_aperiodic(self):
        chance = random.Random(5)
        for _ in range(120):
            names = ["a", "b"][:chance.randint(1, 2)]
            automaton = translate(random_formula(chance, names, 2, 1, 5), names)
            found = exponent(automaton)
            self.assertGreaterEqual(found, 1)
            for _ in range(3):
                word = [chance.randrange(automaton.letters) for _ in range(chance.randint(1, 3))]
                self.assertIsNone(separating_context(automaton, word * found, word * (found + 1)))
        for text, wanted in [("G F a", 1), ("a", 1), ("X a", 2), ("X X a", 3), ("G(a -> X !a)", 2)]:
            self.assertEqual(exponent(translate(parse_property(text, ["a"]), ["a"])), wanted, text)

    def test_the_least_power_is_needed(self):
        chance = random.Random(6)
        for _ in range(60):
            automaton = Automaton(*random_automaton(chance, 3, 2))
            found = exponent(automaton)
            words = [list(word) for size in range(1, 7) for word in itertools.product(range(automaton.letters), repeat=size)]
            if found is not None:
                for word in words[:30]:
                    self.assertIsNone(separating_context(automaton, word * found, word * (found + 1)))
            if found is not None and found > 1:
                self.assertTrue(any(separating_context(automaton, word * (found - 1), word * found) for word in words))

    def test_order_of_states(self):
        chance = random.Random(7)
        for _ in range(80):
            m, initial, accepting, rows = random_automaton(chance, 3, 4)
            n = len(rows)
            order = chance.sample(range(n), n)
            place = {old: new for new, old in enumerate(order)}
            turned = Automaton(m, sorted(place[s] for s in initial), sorted(place[s] for s in accepting),
                               [[sorted(place[t] for t in entry) for entry in rows[s]] for s in order])
            self.assertEqual(exponent(turned), exponent(Automaton(m, initial, accepting, rows)))
