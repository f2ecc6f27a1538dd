"""Solving parity games."""

from promiseplay.graphs import reversed_edges


class Solution:
    """The winners of the positions of a game, and a choice for each position that its owner wins."""

    def __init__(self, winners, choices):
        self.winners = tuple(winners)
        self.choices = tuple(choices)


def solve(game):
    """The solution of a game."""
    work = Recursion(game)
    work.run()
    choices = []
    for position, choice in enumerate(work.choices):
        choices.append(choice if work.winners[position] == game.owners[position] else -1)
    return Solution(work.winners, choices)


class Region:
    """Positions that are a game of their own, and how far its solution has come.

    While the game inside of it is solved, `inside` has the positions of that game, and
    `player` the one to whom the greatest priority of the region belongs.
    """

    def __init__(self, positions):
        self.positions = positions
        self.inside = None
        self.player = 0


class Recursion:
    """The solution of games by way of the smaller games that remain without the greatest priority.

    The regions on the stack lie one inside the other. `level` has for each position
    the number of the regions that it is in, minus 1.
    """

    def __init__(self, game):
        self.game = game
        self.back = reversed_edges(game.moves)
        self.level = [0] * len(game.moves)
        self.winners = [0] * len(game.moves)
        self.choices = [-1] * len(game.moves)
        self.stack = [Region(list(range(len(game.moves))))]

    def run(self):
        """Find all winners and choices."""
        while self.stack:
            region = self.stack[-1]
            if not region.positions:
                self.stack.pop()
            elif region.inside is None:
                self.go_inside(region)
            else:
                self.come_back(region)

    def go_inside(self, region):
        """Turn to what remains when one player is let go to the greatest priorities."""
        depth = len(self.stack) - 1
        priorities = [self.game.priorities[position] for position in region.positions]
        region.player = max(priorities) % 2
        # All priorities above those of the other player are as good as the greatest one.
        most = max([priority for priority in priorities if priority % 2 != region.player], default=-1)
        targets = [position for position in region.positions if self.game.priorities[position] > most]
        for position in targets:
            self.choices[position] = self.inner_move(position, depth)
        taken = self.attract(region.player, targets, depth)
        for position in taken:
            self.winners[position] = region.player
        region.inside = without(region.positions, taken)
        for position in region.inside:
            self.level[position] = depth + 1
        self.stack.append(Region(region.inside))

    def come_back(self, region):
        """Go on when the game inside of a region is solved."""
        depth = len(self.stack) - 1
        other = 1 - region.player
        for position in region.inside:
            self.level[position] = depth
        lost = [position for position in region.inside if self.winners[position] == other]
        rest = []
        if lost:
            taken = self.attract(other, lost, depth)
            for position in taken:
                self.winners[position] = other
            rest = without(region.positions, taken)
            for position in taken:
                self.level[position] = depth - 1
        region.positions = rest
        region.inside = None

    def inner_move(self, position, depth):
        """The first move of a position that stays in the region at a depth."""
        for target in self.game.moves[position]:
            if self.level[target] >= depth:
                return target
        return -1

    def attract(self, player, targets, depth):
        """The positions of the region at a depth from which a player can force the play to targets.

        Each position of the player that is no target gets a choice that leads there.
        """
        found = {position: True for position in targets}
        queue = list(targets)
        open_moves = {}
        at = 0
        while at < len(queue):
            target = queue[at]
            at += 1
            for position in self.back[target]:
                if self.level[position] < depth or position in found:
                    continue
                if self.game.owners[position] == player:
                    self.choices[position] = target
                else:
                    if position not in open_moves:
                        open_moves[position] = self.count_inner(position, depth)
                    open_moves[position] -= 1
                    if open_moves[position] > 0:
                        continue
                found[position] = True
                queue.append(position)
        return queue

    def count_inner(self, position, depth):
        """The number of moves of a position that stay in the region at a depth."""
        return len([target for target in self.game.moves[position] if self.level[target] >= depth])


def without(positions, taken):
    """Those positions, in their order, that are not taken."""
    gone = {position: True for position in taken}
    return [position for position in positions if position not in gone]
