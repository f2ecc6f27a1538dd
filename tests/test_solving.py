import random
import unittest

from promiseplay.games import Game, choices_win
from promiseplay.solving import Solution, solve


def random_game(chance, most, priorities=6):
    n = chance.randint(1, most)
    moves = [sorted(chance.sample(range(n), chance.randint(1, min(n, 4)))) for _ in range(n)]
    return [chance.randint(0, 1) for _ in range(n)], [chance.randrange(priorities) for _ in range(n)], moves


def slow_winners(owners, priorities, moves):
    """The winners as a fixed point inside of a fixed point for each priority, from the definition of parity."""
    n = len(moves)

    def value(priority, fixed):
        if priority < 0:
            found = set()
            for p in range(n):
                can = any if owners[p] == 0 else all
                if can(t in fixed[priorities[p]] for t in moves[p]):
                    found.add(p)
            return found
        here = set(range(n)) if priority % 2 == 0 else set()
        while True:
            later = value(priority - 1, {**fixed, priority: here})
            if later == here:
                return here
            here = later

    won = value(max(priorities), {})
    return [0 if p in won else 1 for p in range(n)]


class Solving(unittest.TestCase):
    def check(self, game):
        solution = solve(game)
        n = len(game.moves)
        self.assertIs(type(solution.winners), tuple)
        self.assertIs(type(solution.choices), tuple)
        self.assertEqual((len(solution.winners), len(solution.choices)), (n, n))
        for p in range(n):
            if solution.winners[p] == game.owners[p]:
                self.assertIn(solution.choices[p], game.moves[p])
            else:
                self.assertEqual(solution.choices[p], -1)
            # The choices of the other player must not be what makes these win.
            mine = [solution.choices[k] if game.owners[k] == solution.winners[p] else -1 for k in range(n)]
            self.assertTrue(choices_win(game, solution.winners[p], mine, p))
        return solution

    def test_the_example(self):
        solution = solve(Game([0, 1], [1, 2], [[0, 1], [0, 1]]))
        self.assertEqual((solution.winners, solution.choices), ((0, 0), (1, -1)))

    def test_the_class(self):
        winners, choices = [0, 1], [1, -1]
        solution = Solution(winners, choices)
        winners.append(1)
        choices.append(1)
        self.assertEqual((solution.winners, solution.choices), ((0, 1), (1, -1)))

    def test_small_games(self):
        self.assertEqual(self.check(Game([0], [0], [[0]])).winners, (0,))
        self.assertEqual(self.check(Game([0], [1], [[0]])).winners, (1,))
        self.assertEqual(self.check(Game([0], [1], [[0]])).choices, (-1,))
        self.assertEqual(self.check(Game([1], [1], [[0]])).choices, (0,))
        # The greatest priority that occurs once only does not count.
        self.assertEqual(self.check(Game([0, 0], [9, 2], [[1], [1]])).winners, (0, 0))
        self.assertEqual(self.check(Game([1, 1], [8, 1], [[1], [1]])).winners, (1, 1))
        # Player 0 must go on through 2 again and again; to stay at 1 would lose.
        self.assertEqual(self.check(Game([0, 0], [1, 2], [[0, 1], [0]])).choices, (1, 0))

    def test_winners_against_fixed_points(self):
        chance = random.Random(1)
        for _ in range(150):
            owners, priorities, moves = random_game(chance, 8, chance.randint(1, 6))
            self.assertEqual(list(self.check(Game(owners, priorities, moves)).winners),
                             slow_winners(owners, priorities, moves))
        for _ in range(25):
            owners, priorities, moves = random_game(chance, 30, 4)
            self.assertEqual(list(solve(Game(owners, priorities, moves)).winners),
                             slow_winners(owners, priorities, moves))

    def test_choices_win_in_games_of_up_to_30_positions(self):
        chance = random.Random(2)
        for _ in range(150):
            self.check(Game(*random_game(chance, 30)))

    def test_exchanges(self):
        chance = random.Random(3)
        for _ in range(150):
            owners, priorities, moves = random_game(chance, 20)
            n = len(moves)
            winners = solve(Game(owners, priorities, moves)).winners
            other = solve(Game([1 - o for o in owners], [p + 1 for p in priorities], moves)).winners
            self.assertEqual(other, tuple(1 - w for w in winners))
            more = 2 * chance.randint(1, 5)
            self.assertEqual(solve(Game(owners, [p + more for p in priorities], moves)).winners, winners)
            order = chance.sample(range(n), n)
            place = {old: new for new, old in enumerate(order)}
            turned = Game([owners[p] for p in order], [priorities[p] for p in order],
                          [sorted(place[t] for t in moves[p]) for p in order])
            self.assertEqual(solve(turned).winners, tuple(winners[p] for p in order))

    def test_same_result_again_and_nothing_changes(self):
        chance = random.Random(4)
        game = Game(*random_game(chance, 20))
        before = (game.owners, game.priorities, game.moves)
        first, second = solve(game), solve(game)
        self.assertEqual((first.winners, first.choices), (second.winners, second.choices))
        self.assertEqual((game.owners, game.priorities, game.moves), before)

    def test_many_priorities(self):
        # A chain of positions with ever greater priorities must not need deep recursion.
        n = 1500
        game = Game([k % 2 for k in range(n)], list(range(n)), [sorted({max(k - 1, 0), min(k + 1, n - 1)}) for k in range(n)])
        solution = solve(game)
        for p in (0, 1, n // 2, n - 1):
            mine = [solution.choices[k] if game.owners[k] == solution.winners[p] else -1 for k in range(n)]
            self.assertTrue(choices_win(game, solution.winners[p], mine, p))
        game = Game([0] * n, list(range(n)), [[k] for k in range(n)])
        self.assertEqual(solve(game).winners, tuple(k % 2 for k in range(n)))
