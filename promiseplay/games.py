"""Parity games."""

from promiseplay.errors import InvalidGame, InvalidPosition
from promiseplay.graphs import on_cycles, reached, reversed_edges
from promiseplay.places import ascends


class Game:
    """A parity game; an entry of moves is the ascending list of the moves of a position."""

    def __init__(self, owners, priorities, moves):
        count = len(moves)
        if count == 0 or len(owners) != count or len(priorities) != count:
            raise InvalidGame("there is no position, or the lists do not have the same length")
        for owner in owners:
            if owner not in (0, 1):
                raise InvalidGame("an owner is not 0 or 1")
        if min(priorities) < 0:
            raise InvalidGame("a priority is negative")
        for targets in moves:
            if len(targets) == 0 or not ascends(targets, count):
                raise InvalidGame("a position has no move, or a list of moves is wrong")
        self.owners = tuple(owners)
        self.priorities = tuple(priorities)
        self.moves = tuple([tuple(targets) for targets in moves])


def check_position(game, position):
    """Raise InvalidPosition if an integer is no position of the game."""
    if position < 0 or position >= len(game.moves):
        raise InvalidPosition("there is no such position")


def distances(game, player, targets):
    """The list of the distances of all positions, -1 for those that have none."""
    found = [-1] * len(game.moves)
    queue = []
    for target in targets:
        check_position(game, target)
        if found[target] < 0:
            found[target] = 0
            queue.append(target)
    back = reversed_edges(game.moves)
    # A position of the other player has a distance when all its moves have one.
    open_moves = [1 if game.owners[k] == player else len(moves) for k, moves in enumerate(game.moves)]
    at = 0
    while at < len(queue):
        target = queue[at]
        at += 1
        for position in back[target]:
            open_moves[position] -= 1
            if open_moves[position] <= 0 and found[position] < 0:
                found[position] = found[target] + 1
                queue.append(position)
    return found


def choices_win(game, player, choices, position):
    """Whether the choices for a player win from a position."""
    check_position(game, position)
    edges = []
    for place, targets in enumerate(game.moves):
        if game.owners[place] != player:
            edges.append(targets)
        else:
            edges.append((choices[place],) if choices[place] >= 0 else ())
    met = reached(edges, [position])
    if any([met[place] and not targets for place, targets in enumerate(edges)]):
        return False
    return not may_lose(game, player, edges, met)


def may_lose(game, player, edges, met):
    """Whether some cycle among the positions that are met is won by the other player."""
    lost = {}
    for place, priority in enumerate(game.priorities):
        if met[place] and priority % 2 != player:
            lost[priority] = True
    for most in lost:
        # A cycle with this greatest priority stays among positions with none that is greater.
        low = [met[place] and priority <= most for place, priority in enumerate(game.priorities)]
        kept = [[target for target in targets if low[place] and low[target]] for place, targets in enumerate(edges)]
        for place, cyclic in enumerate(on_cycles(kept)):
            if cyclic and game.priorities[place] == most:
                return True
    return False
