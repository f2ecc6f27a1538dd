import itertools
import random
import unittest

from oracles import random_automaton, random_lasso, slow_accepts
from promiseplay.buchi import Automaton, accepts
from promiseplay.errors import InvalidLetter, TooLarge
from promiseplay.expressions import automaton_expression, contains, expression_automaton, matches

NONE, EMPTY = ("none",), ("empty",)
A, B, C = [("letter", k) for k in range(3)]


def join(*parts):
    return parts[0] if len(parts) == 1 else ("join", parts[0], join(*parts[1:]))


def either(*parts):
    return parts[0] if len(parts) == 1 else ("either", parts[0], either(*parts[1:]))


def star(part):
    return ("star", part)


def random_expression(chance, letters, depth):
    kind = chance.random()
    if depth <= 1 or kind < 0.15:
        return chance.choice([NONE, EMPTY]) if chance.random() < 0.2 else ("letter", chance.randrange(letters))
    if kind < 0.45:
        return ("join", random_expression(chance, letters, depth - 1), random_expression(chance, letters, depth - 1))
    if kind < 0.75:
        return ("either", random_expression(chance, letters, depth - 1), random_expression(chance, letters, depth - 1))
    return ("star", random_expression(chance, letters, depth - 1))


def slow_words(expression, most):
    """All words with at most so many letters, by the words of the document."""
    kind = expression[0]
    if kind == "none":
        return set()
    if kind == "empty":
        return {()}
    if kind == "letter":
        return {(expression[1],)} if most >= 1 else set()
    first = slow_words(expression[1], most)
    if kind == "star":
        found = {()}
        while True:
            more = found | {one + other for one in found for other in first if len(one) + len(other) <= most}
            if more == found:
                return found
            found = more
    second = slow_words(expression[2], most)
    if kind == "either":
        return first | second
    return {one + other for one in first for other in second if len(one) + len(other) <= most}


def residuals(expression, letter):
    """Expressions that have between them all that can follow a letter in words (the partial derivatives)."""
    kind = expression[0]
    if kind in ("none", "empty"):
        return set()
    if kind == "letter":
        return {EMPTY} if expression[1] == letter else set()
    first = residuals(expression[1], letter)
    if kind == "either":
        return first | residuals(expression[2], letter)
    rest = expression if kind == "star" else expression[2]
    found = {rest if part == EMPTY else ("join", part, rest) for part in first}
    if kind == "join" and has_empty(expression[1]):
        found |= residuals(expression[2], letter)
    return found


def has_empty(expression):
    kind = expression[0]
    if kind == "join":
        return has_empty(expression[1]) and has_empty(expression[2])
    if kind == "either":
        return has_empty(expression[1]) or has_empty(expression[2])
    return kind in ("empty", "star")


def ends(expression, word, back, start):
    """The places of a lasso at which some non-empty word of an expression ends that begins at a place."""
    found, seen, waiting = set(), {(start, expression)}, [(start, expression)]
    while waiting:
        place, here = waiting.pop()
        after = place + 1 if place + 1 < len(word) else back
        for later in residuals(here, word[place]):
            if has_empty(later):
                found.add(after)
            if (after, later) not in seen:
                seen.add((after, later))
                waiting.append((after, later))
    return found


def slow_contains(pairs, lasso):
    """Whether a word is one of an endless expression, place by place."""
    word, back = lasso[0] + lasso[1], len(lasso[0])
    for first, again in pairs:
        starts = ends(first, word, back, 0) | ({0} if has_empty(first) else set())
        steps = {place: ends(again, word, back, place) for place in range(len(word))}

        def closure(places):
            found = set(places)
            while True:
                more = found | {t for s in found for t in steps[s]}
                if more == found:
                    return found
                found = more
        if any(place in closure(steps[place]) for place in closure(starts)):
            return True
    return False


def depth(expression):
    return 1 if expression[0] == "letter" else 1 + max([depth(part) for part in expression[1:]], default=0)


def letters_of(expression):
    if expression[0] == "letter":
        return [expression[1]]
    return [letter for part in expression[1:] for letter in letters_of(part)]


class Matching(unittest.TestCase):
    def test_each_kind(self):
        for expression, words, others in [
                (NONE, [], [[], [0]]), (EMPTY, [[]], [[0]]), (A, [[0]], [[], [1], [0, 0]]),
                (join(A, B), [[0, 1]], [[], [0], [1], [1, 0], [0, 1, 1]]), (either(A, B), [[0], [1]], [[], [2], [0, 1]]),
                (star(A), [[], [0], [0] * 9], [[1], [0, 1]]), (star(NONE), [[]], [[0]]), (star(EMPTY), [[]], [[0]]),
                (join(A, NONE), [], [[], [0]]), (either(A, NONE), [[0]], [[]]), (join(EMPTY, A, EMPTY), [[0]], [[], [0, 0]]),
                (star(star(join(A, star(B)))), [[], [0], [0, 1, 1, 0, 0, 1]], [[1], [1, 0]]),
                (star(either(EMPTY, join(A, B))), [[], [0, 1], [0, 1, 0, 1]], [[0], [0, 1, 0]]),
                (join(star(A), star(A)), [[], [0], [0, 0]], [[1]]), (join(star(either(A, B)), A), [[0], [1, 1, 0]], [[], [0, 1]])]:
            for word in words:
                self.assertIs(matches(expression, word), True, (expression, word))
            for word in others:
                self.assertIs(matches(expression, word), False, (expression, word))

    def test_against_all_words(self):
        chance = random.Random(1)
        for _ in range(250):
            letters = chance.randint(1, 3)
            expression = random_expression(chance, letters, chance.randint(1, 6))
            words = slow_words(expression, 4)
            for size in range(5):
                for word in itertools.product(range(letters), repeat=size):
                    self.assertIs(matches(expression, list(word)), word in words, (expression, word))

    def test_the_list_stays_and_any_letters(self):
        word = [0, 70, 5]
        self.assertIs(matches(join(A, ("letter", 70), ("letter", 5)), word), True)
        self.assertIs(matches(star(A), [10 ** 9]), False)
        self.assertEqual(word, [0, 70, 5])

    def test_large_expressions(self):
        deep = A
        for k in range(99):
            deep = star(deep) if k % 2 else ("either", deep, B)
        self.assertEqual(depth(deep), 100)
        self.assertIs(matches(deep, [0, 1, 1, 0] * 50), True)
        self.assertIs(matches(deep, [0, 2]), False)
        wide = [("letter", k % 60) for k in range(256)]
        while len(wide) > 1:
            wide = [("either", one, other) for one, other in zip(wide[::2], wide[1::2])]
        for _ in range(80):
            wide = [star(wide[0])]
        self.assertIs(matches(wide[0], list(range(60)) * 5), True)
        self.assertIs(matches(wide[0], [60]), False)


class Containing(unittest.TestCase):
    def test_the_example(self):
        some = star(either(A, B))
        pairs = ((some, join(B, star(A))),)
        self.assertEqual((contains(pairs, ((0, 0), (1, 0))), contains(pairs, ((1, 1), (0,)))), (True, False))

    def test_known_answers(self):
        for pairs, lasso, wanted in [
                ((), ((), (0,)), False), (((EMPTY, EMPTY),), ((), (0,)), False), (((star(A), star(EMPTY)),), ((), (0,)), False),
                (((EMPTY, NONE),), ((), (0,)), False), (((NONE, A),), ((), (0,)), False), (((EMPTY, A),), ((), (0,)), True),
                (((EMPTY, star(A)),), ((), (0,)), True), (((EMPTY, star(A)),), ((), (0, 1)), False), (((A, B),), ((0,), (1,)), True),
                (((A, B),), ((), (1,)), False), (((A, B), (EMPTY, A)), ((), (0,)), True), (((A, B), (EMPTY, A)), ((), (2,)), False),
                (((EMPTY, join(A, B)),), ((0,), (1, 0)), True), (((EMPTY, join(A, A)),), ((0,), (0,)), True),
                (((EMPTY, join(A, B)),), ((), (1, 0)), False), (((star(A), either(B, EMPTY)),), ((0, 0), (1,)), True),
                (((EMPTY, ("letter", 63)),), ((), (63,)), True), (((EMPTY, ("letter", 63)),), ((), (62,)), False),
                (((A, B),), ((0,), (63,)), False), (((A, ("letter", 40)),), ((0,), (63, 1)), False)]:
            self.assertIs(contains(pairs, lasso), wanted, (pairs, lasso))

    def test_forms_of_a_lasso_and_against_places(self):
        chance = random.Random(2)
        told = {True: 0, False: 0}
        for _ in range(250):
            letters = chance.randint(1, 3)
            pairs = tuple((random_expression(chance, letters, 4), random_expression(chance, letters, 4))
                          for _ in range(chance.randint(1, 3)))
            for _ in range(6):
                head, loop = random_lasso(chance, letters, 3, 3)
                found = contains(pairs, (head, loop))
                self.assertIs(found, slow_contains(pairs, (head, loop)))
                self.assertIs(contains(pairs, (head + loop + loop[:1], loop[1:] + loop + loop[:1])), found)
                told[found] += 1
        self.assertGreater(min(told.values()), 200)


class FromExpressions(unittest.TestCase):
    def test_the_empty_tuple(self):
        automaton = expression_automaton((), 3)
        self.assertEqual((automaton.letters, len(automaton.rows)), (3, 1))
        self.assertIs(accepts(automaton, ((), (0, 1, 2))), False)

    def test_words_and_number_of_states(self):
        chance = random.Random(3)
        for _ in range(250):
            letters = chance.randint(1, 4)
            pairs = tuple((random_expression(chance, letters, 5), random_expression(chance, letters, 5))
                          for _ in range(chance.randint(1, 3)))
            automaton = expression_automaton(pairs, letters)
            self.assertEqual(automaton.letters, letters)
            most = sum(1 + len(letters_of(first)) + 2 * len(letters_of(again)) for first, again in pairs)
            self.assertLessEqual(len(automaton.rows), most)
            for _ in range(8):
                lasso = random_lasso(chance, letters, 3, 3)
                self.assertIs(accepts(automaton, lasso), slow_contains(pairs, lasso))

    def test_wrong_letters(self):
        for pairs in [((A, ("letter", 2)),), ((("letter", 2), A),), ((A, B), (A, star(join(NONE, ("letter", 5))))),
                      ((("letter", -1), A),), ((A, either(B, ("letter", -1))),), ((join(NONE, C), EMPTY),)]:
            with self.assertRaises(InvalidLetter):
                expression_automaton(pairs, 2)
        self.assertIs(accepts(expression_automaton(((A, B),), 2), ((0,), (1,))), True)

    def test_large_expressions(self):
        wide = star(either(*[("letter", k % 64) for k in range(90)]))
        automaton = expression_automaton(((wide, join(wide, A)),), 64)
        self.assertIs(accepts(automaton, ((5, 63), (0, 7))), True)
        self.assertIs(accepts(automaton, ((5, 0), (7,))), False)


class FromAutomata(unittest.TestCase):
    def test_words_pairs_and_depth(self):
        chance = random.Random(4)
        for _ in range(200):
            m, initial, accepting, rows = random_automaton(chance, 3, 4)
            pairs = automaton_expression(Automaton(m, initial, accepting, rows))
            self.assertIs(type(pairs), tuple)
            self.assertEqual({(type(pair), len(pair)) for pair in pairs} | {(tuple, 2)}, {(tuple, 2)})
            self.assertLessEqual(len(pairs), len(initial) * len(accepting))
            self.assertLessEqual(max([depth(part) for pair in pairs for part in pair], default=0), 100)
            for _ in range(12):
                lasso = random_lasso(chance, m)
                self.assertIs(contains(pairs, lasso), slow_accepts(rows, initial, accepting, lasso))

    def test_there_and_back(self):
        chance = random.Random(5)
        for _ in range(60):
            m, initial, accepting, rows = random_automaton(chance, 3, 4)
            automaton = Automaton(m, initial, accepting, rows)
            pairs = automaton_expression(automaton)
            again = expression_automaton(pairs, m)
            for _ in range(10):
                lasso = random_lasso(chance, m)
                self.assertIs(accepts(again, lasso), accepts(automaton, lasso))
            self.assertEqual(automaton_expression(automaton), pairs)

    def test_all_steps(self):
        # Three states, four letters and everything that there can be.
        rows = [[[0, 1, 2]] * 4] * 3
        pairs = automaton_expression(Automaton(4, [0, 1, 2], [0, 1, 2], rows))
        self.assertLessEqual(len(pairs), 9)
        for lasso in [((), (0,)), ((3, 2), (1, 0)), ((0,), (3,))]:
            self.assertIs(contains(pairs, lasso), True)

    def test_bounds(self):
        for automaton in [Automaton(1, [0], [0], [[[0]]] * 4), Automaton(5, [0], [0], [[[0]] * 5]),
                          Automaton(5, [0], [0], [[[0]] * 5] * 4)]:
            with self.assertRaises(TooLarge):
                automaton_expression(automaton)
        self.assertEqual(len(automaton_expression(Automaton(4, [0], [0], [[[0]] * 4] * 3))), 1)
        self.assertEqual(automaton_expression(Automaton(1, [], [0], [[[0]]])), ())
