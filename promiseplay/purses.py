"""Games in which an amount is kept in a purse that holds only so much.

Having more never does harm. So what a player wins is, at each position, the amounts
from some bound on, or those below it; and all sets of pairs of a position and an
amount that come up are bands, with a lower bound and an upper bound at each position.
The amounts from the lower bound on and below the upper one are in the band.
"""


class Band:
    """Pairs that are a game of their own, and how far its solution has come.

    While the game inside of it is solved, `waiting` is True, and `player` is the one
    to whom the greatest priority of the band belongs.
    """

    def __init__(self, low, high):
        self.low = low
        self.high = high
        self.waiting = False
        self.player = 0


class Purse:
    """The solution of a game with a purse, by way of the smaller games without the greatest priorities.

    `bounds` has in the end for each position the least amount with which player 0 wins,
    capacity + 1 for none. `choices` has for each position and each amount the index of
    a move for its owner, if the owner wins from there.
    """

    def __init__(self, game, capacity):
        self.game = game
        self.capacity = capacity
        # A bound from which no price leads back to the amounts that the purse can hold.
        prices = [abs(price) for pairs in game.moves for _, price in pairs]
        self.endless = capacity + 1 + max(prices)
        self.back = arrivals(game.moves)
        self.choices = [[-1] * (capacity + 1) for _ in game.moves]
        self.bounds = [0] * len(game.moves)
        self.stack = []

    def run(self):
        """Find all bounds and choices."""
        count = len(self.game.moves)
        high = [self.endless] * count
        low = self.with_less([0] * count, high, list(range(count)))
        self.stack.append(Band(low, high))
        while self.stack:
            band = self.stack[-1]
            if band.low == band.high:
                self.bounds = band.low
                self.stack.pop()
            elif band.waiting:
                self.come_back(band)
            else:
                self.go_inside(band)
        self.bounds = [min(bound, self.capacity + 1) for bound in self.bounds]

    def go_inside(self, band):
        """Turn to what remains when one player is let go to the greatest priorities."""
        alive = [place for place, least in enumerate(band.low) if least < band.high[place]]
        priorities = self.game.priorities
        band.player = max([priorities[place] for place in alive]) % 2
        # All priorities above those of the other player are as good as the greatest one.
        most = max([priorities[place] for place in alive if priorities[place] % 2 != band.player], default=-1)
        targets = [place for place in alive if priorities[place] > most]
        self.stay_inside(band, targets)
        if band.player == 0:
            high = self.with_more(replaced(band.high, band.low, targets), band.low, targets)
            self.stack.append(Band(band.low, high))
        else:
            low = self.with_less(replaced(band.low, band.high, targets), band.high, targets)
            self.stack.append(Band(low, band.high))
        band.waiting = True

    def come_back(self, band):
        """Go on when the game inside of a band is solved."""
        band.waiting = False
        if band.player == 0:
            lost = changed_places(self.bounds, band.low)
            band.low = self.with_less(list(self.bounds), band.high, lost)
            if not lost:
                band.high = band.low
        else:
            won = changed_places(self.bounds, band.high)
            band.high = self.with_more(list(self.bounds), band.low, won)
            if not won:
                band.low = band.high

    def best(self, place, bounds):
        """The bound of a position if its moves lead to bounds, and the move of its owner that makes it so.

        It may be negative, or greater than the capacity: then it is endless.
        """
        found = [bounds[target] - price for target, price in self.game.moves[place]]
        bound = min(found) if self.game.owners[place] == 0 else max(found)
        return bound, found.index(bound)

    def stay_inside(self, band, targets):
        """Choose moves that stay in a band, at those of some positions that the player of the band owns."""
        bounds = band.low if band.player == 0 else band.high
        for place in targets:
            if self.game.owners[place] == band.player:
                _, move = self.best(place, bounds)
                self.choose(place, band.low[place], band.high[place], move)

    def choose(self, place, start, end, move):
        """Choose a move of a position for the amounts from start to end - 1."""
        end = min(end, self.capacity + 1)
        self.choices[place][start:end] = [move] * (end - start)

    def with_less(self, bounds, high, changed):
        """Raise bounds to those below which player 1 can force the play to be below them, up to others.

        changed has the positions whose bounds are new, or all positions.
        """
        # The moves with which player 0 keeps to the bounds; only what happens to these counts.
        tight = {}
        waiting = list(changed)
        queued = {place: True for place in waiting}
        at = 0
        while at < len(waiting):
            target = waiting[at]
            at += 1
            del queued[target]
            for place, move, price in self.back[target]:
                found = bounds[target] - price
                if found <= bounds[place] or tight.get(place, move) != move:
                    continue
                if self.game.owners[place] == 0:
                    found, tight[place] = self.best(place, bounds)
                new = min(found if found <= self.capacity else self.endless, high[place])
                if new > bounds[place]:
                    if self.game.owners[place] == 1:
                        self.choose(place, bounds[place], new, move)
                    bounds[place] = new
                    if place not in queued:
                        queued[place] = True
                        waiting.append(place)
        return bounds

    def with_more(self, bounds, low, changed):
        """Lower bounds to those from which on player 0 can force the play to be from them on, down to others."""
        tight = {}
        waiting = list(changed)
        queued = {place: True for place in waiting}
        at = 0
        while at < len(waiting):
            target = waiting[at]
            at += 1
            del queued[target]
            for place, move, price in self.back[target]:
                found = bounds[target] - price
                if found >= bounds[place] or found > self.capacity or tight.get(place, move) != move:
                    continue
                if self.game.owners[place] == 1:
                    found, tight[place] = self.best(place, bounds)
                new = max(found, low[place])
                if new < bounds[place] and found <= self.capacity:
                    if self.game.owners[place] == 0:
                        self.choose(place, new, bounds[place], move)
                    bounds[place] = new
                    if place not in queued:
                        queued[place] = True
                        waiting.append(place)
        return bounds


def arrivals(moves):
    """For each position the list of the moves to it: triples of a position, the index of its move and the price."""
    found = [[] for _ in moves]
    for place, pairs in enumerate(moves):
        for move, (target, price) in enumerate(pairs):
            found[target].append((place, move, price))
    return found


def replaced(bounds, others, places):
    """The bounds with those of some positions replaced by others."""
    found = list(bounds)
    for place in places:
        found[place] = others[place]
    return found


def changed_places(first, second):
    """The positions whose bounds differ."""
    return [place for place, bound in enumerate(first) if bound != second[place]]
