import itertools
import random
import unittest
from fractions import Fraction

from promiseplay.errors import InvalidGame, InvalidPosition
from promiseplay.games import Game
from promiseplay.priced import PricedGame, free_needs, means, needs, plan_works, purse_plan
from promiseplay.solving import solve


def random_priced(chance, most=5, prices=3, priorities=4):
    n = chance.randint(1, most)
    moves = []
    for _ in range(n):
        moves.append(sorted({(chance.randrange(n), chance.randint(-prices, prices)) for _ in range(chance.randint(1, 3))}))
    return PricedGame([chance.randint(0, 1) for _ in range(n)], [chance.randrange(priorities) for _ in range(n)], moves)


def slow_needs(game, capacity):
    """The needs by a parity game of positions and amounts, in which short plays end in a lost position."""
    pairs = list(itertools.product(range(len(game.moves)), range(capacity + 1)))
    numbers = {pair: k for k, pair in enumerate(pairs)}
    moves = []
    for place, amount in pairs:
        targets = set()
        for target, price in game.moves[place]:
            left = min(amount + price, capacity)
            targets.add(numbers[target, left] if left >= 0 else len(pairs))
        moves.append(sorted(targets))
    owners = [game.owners[place] for place, _ in pairs] + [0]
    priorities = [game.priorities[place] for place, _ in pairs] + [1]
    winners = solve(Game(owners, priorities, moves + [[len(pairs)]])).winners
    found = []
    for place in range(len(game.moves)):
        kept = [a for a in range(capacity + 1) if winners[numbers[place, a]] == 0]
        found.append(min(kept) if kept else None)
    return found


def slow_plan_works(game, capacity, plan, position, amount):
    """Whether no play is short or lost: a play that comes back to where it was goes on for ever."""
    def bad(path, place, held):
        if (place, held) in path:
            cycle = path[path.index((place, held)):]
            return max(game.priorities[p] for p, _ in cycle) % 2 == 1
        if game.owners[place] == 0:
            if plan[place][held] < 0:
                return True
            chosen = [game.moves[place][plan[place][held]]]
        else:
            chosen = game.moves[place]
        return any(held + price < 0 or bad(path + [(place, held)], target, min(held + price, capacity)) for target, price in chosen)
    return not bad([], position, amount)


def positional(game):
    """All ways in which player 0 and player 1 always take one move at each position."""
    return itertools.product(*[range(len(pairs)) for pairs in game.moves])


def cycle_mean(game, picks, position):
    """The mean price of the cycle into which a play runs."""
    path = []
    while position not in path:
        path.append(position)
        position = game.moves[position][picks[position]][0]
    cycle = path[path.index(position):]
    return Fraction(sum(game.moves[p][picks[p]][1] for p in cycle), len(cycle))


def slow_means(game):
    """The means by all choices of one move for each position."""
    count = len(game.moves)
    best = [{} for _ in range(count)]
    for picks in positional(game):
        own = tuple(k if game.owners[p] == 0 else -1 for p, k in enumerate(picks))
        for p in range(count):
            mean = cycle_mean(game, picks, p)
            best[p][own] = min(best[p].get(own, mean), mean)
    return [max(told.values()) for told in best]


def slow_free_needs(game):
    """The needs without a purse by all choices of one move for each position of player 0."""
    count = len(game.moves)
    zeros = [p for p in range(count) if game.owners[p] == 0]
    found = [None] * count
    for picks in itertools.product(*[range(len(game.moves[p])) for p in zeros]):
        moves = [[game.moves[p][picks[zeros.index(p)]]] if p in zeros else game.moves[p] for p in range(count)]
        lost = [0] * count
        for _ in range(count + 1):
            before = lost
            lost = [max([0] + [lost[t] - w for t, w in moves[p]]) for p in range(count)]
        # What still grows grows for ever, and so does what leads there.
        growing = {p for p in range(count) if lost[p] != before[p]}
        for _ in range(count):
            growing |= {p for p in range(count) if any(t in growing for t, _ in moves[p])}
        for _ in range(2 * count):
            lost = [max([0] + [lost[t] - w for t, w in moves[p]]) for p in range(count)]
        for p in range(count):
            if p not in growing and (found[p] is None or lost[p] < found[p]):
                found[p] = lost[p]
    return found


class Games(unittest.TestCase):
    def test_attributes(self):
        owners, priorities, moves = [0, 1], [3, 2], [[(0, -1000), (0, 1000), (1, 0)], [(0, 5)]]
        game = PricedGame(owners, priorities, moves)
        wanted = ((0, 1), (3, 2), (((0, -1000), (0, 1000), (1, 0)), ((0, 5),)))
        self.assertEqual((game.owners, game.priorities, game.moves), wanted)
        moves[0].append((1, 7))
        owners[0] = 1
        self.assertEqual((game.owners, game.priorities, game.moves), wanted)

    def test_faults(self):
        good = [[(0, 1), (1, 1)], [(0, 0)]]
        PricedGame([0, 1], [0, 0], good)
        for arguments in [([], [], []), ([0], [0, 0], good), ([0, 1], [0], good), ([0, 1, 1], [0, 0, 0], good), ([0, 2], [0, 0], good),
                          ([-1, 0], [0, 0], good), ([0, 1], [0, -1], good), ([0, 1], [0, 0], [[(0, 1)], []]), ([0, 1], [0, 0], [[(2, 0)], [(0, 0)]]),
                          ([0, 1], [0, 0], [[(-1, 0)], [(0, 0)]]), ([0, 1], [0, 0], [[(0, 1001)], [(0, 0)]]), ([0, 1], [0, 0], [[(0, -1001)], [(0, 0)]]),
                          ([0, 1], [0, 0], [[(1, 0), (0, 0)], [(0, 0)]]), ([0, 1], [0, 0], [[(0, 0), (0, 0)], [(0, 0)]]),
                          ([0, 1], [0, 0], [[(0, 1), (0, 0)], [(0, 0)]])]:
            with self.assertRaises(InvalidGame):
                PricedGame(*arguments)

    def test_the_example(self):
        game = PricedGame([0, 0], [1, 2], [[(0, -1), (1, -2)], [(0, 3), (1, 0)]])
        self.assertEqual((needs(game, 3), free_needs(game), means(game)), ([2, 0], [2, 0], [(1, 2), (1, 2)]))


class WithAPurse(unittest.TestCase):
    def test_known_needs(self):
        stay = PricedGame([0], [0], [[(0, -1)]])
        self.assertEqual([needs(stay, c) for c in (0, 5, 1000)], [[None]] * 3)
        # What comes in beyond the capacity is lost.
        swing = PricedGame([0, 1], [0, 0], [[(1, 5)], [(0, -5)]])
        self.assertEqual([needs(swing, c) for c in (0, 4, 5, 6, 1000)], [[None, None]] * 2 + [[0, 5]] * 3)
        # A play may be short at a move of either player.
        self.assertEqual(needs(PricedGame([1, 0], [0, 0], [[(0, 0), (1, -3)], [(1, 0)]]), 9), [3, 0])
        self.assertEqual(needs(PricedGame([0, 0], [1, 0], [[(0, 9), (1, -3)], [(1, 0)]]), 9), [0, 0])
        self.assertEqual(needs(PricedGame([0, 0], [1, 0], [[(0, 0), (1, -3)], [(1, 0)]]), 9), [3, 0])
        self.assertEqual(needs(PricedGame([0, 0], [1, 0], [[(0, 1), (1, -1000)], [(1, 0)]]), 1000), [0, 0])
        self.assertEqual(needs(PricedGame([0, 0], [1, 0], [[(0, 1), (1, -1000)], [(1, 0)]]), 999), [None, 0])
        self.assertEqual(needs(PricedGame([1], [0], [[(0, -1), (0, 1)]]), 1000), [None])
        self.assertEqual(needs(PricedGame([0], [0], [[(0, -1), (0, 1)]]), 0), [0])

    def test_against_a_slow_game(self):
        chance = random.Random(1)
        told = {None: 0, 0: 0, 1: 0}
        for _ in range(300):
            game = random_priced(chance, prices=chance.choice([1, 2, 5]))
            capacity = chance.choice([0, 1, 2, 4, 7, 12])
            before = dict(vars(game))
            found = needs(game, capacity)
            self.assertEqual(vars(game), before)
            self.assertEqual(found, slow_needs(game, capacity))
            for need in found:
                told[need if need in (None, 0) else 1] += 1
            plan = purse_plan(game, capacity)
            self.assertEqual(plan, purse_plan(game, capacity))
            self.assertIs(type(plan), tuple)
            for place, entries in enumerate(plan):
                self.assertIs(type(entries), tuple)
                self.assertEqual(len(entries), capacity + 1)
                self.assertTrue(all(-1 <= entry < len(game.moves[place]) for entry in entries))
                for amount in range(capacity + 1):
                    wanted = found[place] is not None and amount >= found[place]
                    self.assertIs(plan_works(game, capacity, plan, place, amount), wanted)
        self.assertGreater(min(told.values()), 25)

    def test_drawn_plans_against_a_slow_look(self):
        chance = random.Random(2)
        told = {True: 0, False: 0}
        for _ in range(400):
            game = random_priced(chance, most=3, prices=2)
            capacity = chance.choice([0, 1, 2, 3])
            plan = [[chance.randrange(len(game.moves[p])) for _ in range(capacity + 1)] for p in range(len(game.moves))]
            if chance.random() < 0.3:
                plan[chance.randrange(len(plan))][chance.randint(0, capacity)] = -1
            if chance.random() < 0.3:
                plan = [list(entries) for entries in purse_plan(game, capacity)]
            place, amount = chance.randrange(len(plan)), chance.randint(0, capacity)
            wanted = slow_plan_works(game, capacity, plan, place, amount)
            self.assertIs(plan_works(game, capacity, plan, place, amount), wanted)
            for p, owner in enumerate(game.owners):
                if owner == 1:
                    plan[p] = [chance.choice([-1, 0]) for _ in plan[p]]
            self.assertIs(plan_works(game, capacity, plan, place, amount), wanted)
            told[wanted] += 1
        self.assertGreater(min(told.values()), 50)

    def test_positions_and_amounts(self):
        game = PricedGame([0, 1], [0, 0], [[(1, 0)], [(0, 0)]])
        plan = ((0, 0, 0), (-1, -1, -1))
        self.assertIs(plan_works(game, 2, plan, 1, 2), True)
        for place, amount in [(-1, 0), (2, 0), (0, -1), (0, 3), (2, 3)]:
            with self.assertRaises(InvalidPosition):
                plan_works(game, 2, plan, place, amount)

    def test_great_purses(self):
        chance = random.Random(3)
        for _ in range(6):
            game = random_priced(chance, most=6, prices=chance.choice([3, 400, 1000]))
            found = needs(game, 1000)
            plan = purse_plan(game, 1000)
            for place, need in enumerate(found):
                if need is not None:
                    self.assertTrue(plan_works(game, 1000, plan, place, need))
                    self.assertTrue(plan_works(game, 1000, plan, place, 1000))
                    if need > 0:
                        self.assertFalse(plan_works(game, 1000, plan, place, need - 1))


class WithoutAPurse(unittest.TestCase):
    def test_known_answers(self):
        game = PricedGame([0, 1, 0], [5, 1, 1], [[(1, -1000)], [(2, -1000)], [(0, 999), (2, 0)]])
        self.assertEqual((free_needs(game), means(PricedGame([0], [1], [[(0, -20), (0, 20)]]))), ([2000, 1000, 0], [(20, 1)]))
        self.assertEqual(means(PricedGame([1, 0], [0, 0], [[(0, -3), (1, 0)], [(0, 3)]])), [(-3, 1), (-3, 1)])
        self.assertEqual(means(PricedGame([1, 0], [0, 0], [[(1, 0)], [(0, -2)]])), [(-1, 1), (-1, 1)])
        self.assertEqual(means(PricedGame([1, 0, 0], [0] * 3, [[(1, 0)], [(2, 0)], [(0, 2)]])), [(2, 3)] * 3)
        self.assertEqual(means(PricedGame([1, 0, 0], [0] * 3, [[(1, 0)], [(2, 0)], [(0, 0)]])), [(0, 1)] * 3)
        ring = [[((k + 1) % 8, -20 if k else 19)] for k in range(8)]
        self.assertEqual(means(PricedGame([0] * 8, [0] * 8, ring)), [(-121, 8)] * 8)
        self.assertEqual(free_needs(PricedGame([0] * 8, [0] * 8, ring)), [None] * 8)

    def test_against_all_choices(self):
        chance = random.Random(4)
        seen = set()
        for _ in range(200):
            game = random_priced(chance, most=5, prices=chance.choice([1, 4, 20]))
            found = means(game)
            self.assertEqual([Fraction(n, d) for n, d in found], slow_means(game))
            for n, d in found:
                self.assertEqual((Fraction(n, d).numerator, Fraction(n, d).denominator), (n, d))
                seen.add((n > 0) - (n < 0) + (d > 1) * 10)
            told = free_needs(game)
            self.assertEqual(told, slow_free_needs(game))
            for need, (n, _) in zip(told, found):
                self.assertIs(need is None, n < 0)
            lost = max([0] + [-price for pairs in game.moves for _, price in pairs])
            self.assertTrue(all(need <= len(told) * lost for need in told if need is not None))
            # With a purse that holds enough, and no priorities, needs are the same.
            plain = PricedGame(game.owners, [0] * len(told), game.moves)
            self.assertEqual(told, needs(plain, len(told) * lost))
        self.assertEqual(seen, {-1, 0, 1, 9, 11})

    def test_eight_positions(self):
        chance = random.Random(5)
        for _ in range(5):
            moves = [sorted({(chance.randrange(8), chance.randint(-20, 20)) for _ in range(3)}) for _ in range(8)]
            game = PricedGame([chance.randint(0, 1) for _ in range(8)], [0] * 8, moves)
            for (n, d), need in zip(means(game), free_needs(game)):
                self.assertLessEqual(d, 8)
                self.assertIs(need is None, n < 0)


if __name__ == "__main__":
    unittest.main()
