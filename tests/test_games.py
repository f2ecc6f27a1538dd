import itertools
import random
import unittest

from promiseplay.errors import InvalidGame, InvalidPosition
from promiseplay.games import Game, choices_win, distances


def random_game(chance, most=6):
    n = chance.randint(1, most)
    moves = []
    for _ in range(n):
        targets = sorted(chance.sample(range(n), chance.randint(1, min(n, 3))))
        moves.append(targets)
    return [chance.randint(0, 1) for _ in range(n)], [chance.randint(0, 4) for _ in range(n)], moves


def slow_distances(game, player, targets):
    """The least number of moves within which the player can force a target, by counting up."""
    n = len(game.moves)
    found = [0 if p in targets else -1 for p in range(n)]
    within = [p in targets for p in range(n)]
    for k in range(1, n + 1):
        later = list(within)
        for p in range(n):
            can = any if game.owners[p] == player else all
            if can(within[t] for t in game.moves[p]):
                later[p] = True
        for p in range(n):
            if later[p] and found[p] < 0:
                found[p] = k
        within = later
    return found


def slow_choices_win(game, player, choices, position):
    """Whether all choices of the other player lose: then each play ends in one cycle."""
    n = len(game.moves)
    others = [p for p in range(n) if game.owners[p] != player]
    for picks in itertools.product(*[game.moves[p] for p in others]):
        step = dict(zip(others, picks))
        for p in range(n):
            if game.owners[p] == player:
                step[p] = choices[p]
        seen = []
        place = position
        while place not in seen:
            seen.append(place)
            if step[place] < 0:
                return False
            place = step[place]
        if max(game.priorities[p] for p in seen[seen.index(place):]) % 2 != player:
            return False
    return True


class Construction(unittest.TestCase):
    def test_attributes(self):
        owners, priorities, moves = [0, 1], [3, 0], [[0, 1], [0]]
        game = Game(owners, priorities, moves)
        wanted = ((0, 1), (3, 0), ((0, 1), (0,)))
        self.assertEqual((game.owners, game.priorities, game.moves), wanted)
        owners[0] = 1
        priorities.append(5)
        moves[1].append(1)
        moves.append([0])
        self.assertEqual((game.owners, game.priorities, game.moves), wanted)

    def test_faults(self):
        good = [[0, 1], [0]]
        for arguments in [
                ([], [], []), ([0], [0, 0], good), ([0, 1], [0], good), ([0, 1, 1], [0, 0], good), ([0, 1], [0, 0, 0], good),
                ([0, 0], [0, 0], [[0]]), ([0, 2], [0, 0], good), ([-1, 0], [0, 0], good), ([0, 1], [0, -1], good),
                ([0, 1], [0, 0], [[0], []]), ([0, 1], [0, 0], [[2], [0]]), ([0, 1], [0, 0], [[-1], [0]]),
                ([0, 1], [0, 0], [[1, 0], [0]]), ([0, 1], [0, 0], [[0], [1, 1]]), ([0, 1], [0, 0], [[0, 1, 2], [1]]),
                ([], [], good)]:
            with self.assertRaises(InvalidGame, msg=arguments):
                Game(*arguments)
        Game([0], [10 ** 30], [[0]])


class Distances(unittest.TestCase):
    def test_example(self):
        self.assertEqual(distances(Game([0, 1, 1], [0, 0, 0], [[1, 2], [2], [0, 2]]), 0, [2]), [1, 1, 0])

    def test_random_games(self):
        chance = random.Random(41)
        for _ in range(400):
            game = Game(*random_game(chance, 7))
            for player in (0, 1):
                targets = [chance.randrange(len(game.moves)) for _ in range(chance.randint(0, 3))]
                before = list(targets)
                self.assertEqual(distances(game, player, targets), slow_distances(game, player, targets))
                self.assertEqual(targets, before)

    def test_least_and_greatest(self):
        # From 0 a short way leads to 4 and a long one.
        moves = [[1, 4], [2], [3], [4], [4]]
        self.assertEqual(distances(Game([0] * 5, [0] * 5, moves), 0, [4]), [1, 3, 2, 1, 0])
        self.assertEqual(distances(Game([0] * 5, [0] * 5, moves), 1, [4]), [4, 3, 2, 1, 0])

    def test_targets(self):
        game = Game([0, 1], [0, 0], [[0, 1], [0, 1]])
        self.assertEqual(distances(game, 0, []), [-1, -1])
        self.assertEqual(distances(game, 0, [1, 1]), [1, 0])
        self.assertEqual(distances(game, 1, [1]), [-1, 0])
        self.assertEqual(distances(game, 0, [0]), [0, -1])
        self.assertIsNot(distances(game, 0, [0]), distances(game, 0, [0]))

    def test_no_position(self):
        game = Game([0, 1], [0, 0], [[0, 1], [0, 1]])
        for targets in ([2], [-1], [0, 5], [0, 0, -3]):
            with self.assertRaises(InvalidPosition):
                distances(game, 0, targets)


class Choices(unittest.TestCase):
    def test_random_games(self):
        chance = random.Random(42)
        answers = {True: 0, False: 0}
        for _ in range(800):
            game = Game(*random_game(chance))
            player = chance.randint(0, 1)
            choices = [chance.choice(list(targets) + [targets[0]] * 3 + [-1]) for targets in game.moves]
            before = list(choices)
            for position in range(len(game.moves)):
                found = choices_win(game, player, choices, position)
                self.assertIs(found, slow_choices_win(game, player, choices, position))
                answers[found] += 1
            self.assertEqual(choices, before)
        self.assertGreater(min(answers.values()), 400)

    def test_missing_choices(self):
        game = Game([0, 1, 0], [0, 0, 0], [[1], [1], [2]])
        self.assertIs(choices_win(game, 0, [1, -1, -1], 0), True)
        self.assertIs(choices_win(game, 0, [-1, -1, -1], 1), True)
        self.assertIs(choices_win(game, 0, [-1, -1, 2], 0), False)
        self.assertIs(choices_win(game, 0, [1, -1, -1], 2), False)

    def test_entries_at_other_positions(self):
        game = Game([0, 1], [0, 1], [[0, 1], [0, 1]])
        for entry in (-1, 0, 1):
            self.assertIs(choices_win(game, 0, [0, entry], 0), True)
            self.assertIs(choices_win(game, 0, [0, entry], 1), False)
            self.assertIs(choices_win(game, 1, [entry, 1], 1), True)
            self.assertIs(choices_win(game, 1, [entry, 1], 0), False)

    def test_greatest_priorities(self):
        big = 10 ** 30
        game = Game([0, 0, 0], [big, big + 1, 7], [[1, 2], [0], [0]])
        self.assertIs(choices_win(game, 0, [2, 0, 0], 0), True)
        self.assertIs(choices_win(game, 0, [1, 0, 0], 0), False)
        self.assertIs(choices_win(game, 0, [2, 0, 0], 1), True)

    def test_no_position(self):
        game = Game([0, 1], [0, 0], [[0, 1], [0, 1]])
        for position in (-1, 2, 10 ** 30):
            with self.assertRaises(InvalidPosition):
                choices_win(game, 0, [-1, -1], position)
