"""Games in which moves have prices."""

from math import gcd, lcm

from promiseplay.errors import InvalidGame, InvalidPosition
from promiseplay.games import check_position
from promiseplay.judges import cycle_nodes
from promiseplay.places import Places
from promiseplay.purses import Purse, arrivals

MOST_PRICE = 1000


class PricedGame:
    """A priced game; an entry of moves is the ascending list of the moves of a position: pairs (target, price)."""

    def __init__(self, owners, priorities, moves):
        count = len(moves)
        if count == 0 or len(owners) != count or len(priorities) != count:
            raise InvalidGame("there is no position, or the lists do not have the same length")
        for owner in owners:
            if owner not in (0, 1):
                raise InvalidGame("an owner is not 0 or 1")
        if min(priorities) < 0:
            raise InvalidGame("a priority is negative")
        for pairs in moves:
            if len(pairs) == 0 or not are_moves(pairs, count):
                raise InvalidGame("a position has no move, or a list of moves is wrong")
        self.owners = tuple(owners)
        self.priorities = tuple(priorities)
        self.moves = tuple([tuple([tuple(pair) for pair in pairs]) for pairs in moves])


def are_moves(pairs, count):
    """Whether some pairs ascend strictly and are moves in a game with so many positions."""
    before = None
    for target, price in pairs:
        if target < 0 or target >= count or abs(price) > MOST_PRICE:
            return False
        if before is not None and (target, price) <= before:
            return False
        before = (target, price)
    return True


def solved_purse(game, capacity):
    """The solution of a game with a purse."""
    purse = Purse(game, capacity)
    purse.run()
    return purse


def needs(game, capacity):
    """The list of the needs of all positions with a purse."""
    return [None if bound > capacity else bound for bound in solved_purse(game, capacity).bounds]


def purse_plan(game, capacity):
    """A plan that works from each position with each amount that is at least its need."""
    purse = solved_purse(game, capacity)
    plan = []
    for place, owner in enumerate(game.owners):
        bound = purse.bounds[place] if owner == 0 else capacity + 1
        plan.append((-1,) * bound + tuple(purse.choices[place][bound:]))
    return tuple(plan)


def plan_works(game, capacity, plan, position, amount):
    """Whether a plan works from a position with an amount."""
    check_position(game, position)
    if amount < 0 or amount > capacity:
        raise InvalidPosition("the purse cannot hold the amount")
    places = Places()
    places.number_of((position, amount))
    rows = []
    ranks = []
    while places.waits(rows):
        place, held = places.first_without(rows)
        moves = planned_moves(game, plan, place, held)
        later = [(target, min(held + price, capacity)) for target, price in moves]
        if not moves or min([left for _, left in later]) < 0:
            return False
        rows.append([places.number_of(pair) for pair in later])
        ranks.append([game.priorities[place] for _ in later])
    return not cycle_nodes(rows, ranks, 1)


def planned_moves(game, plan, place, held):
    """The moves that are possible at a position with an amount when player 0 keeps to a plan."""
    moves = game.moves[place]
    if game.owners[place] == 1:
        return moves
    index = plan[place][held]
    return (moves[index],) if index >= 0 else ()


def free_needs(game):
    """The list of the needs of all positions without a purse."""
    return lasting_needs(game.owners, game.moves)


def lasting_needs(owners, moves):
    """The needs without a purse in a game with moves of any price."""
    drops = [max(0, -min([price for _, price in pairs])) for pairs in moves]
    # Where player 0 can keep the amounts from falling without end, no play from a
    # position loses more than once through each position.
    most = sum(drops)
    bounds = [0] * len(moves)
    back = arrivals(moves)
    waiting = list(range(len(moves)))
    queued = {place: True for place in waiting}
    at = 0
    while at < len(waiting):
        target = waiting[at]
        at += 1
        del queued[target]
        for place, _, _ in back[target]:
            found = [most + 1 if bounds[later] > most else bounds[later] - price for later, price in moves[place]]
            bound = min(min(found) if owners[place] == 0 else max(found), most + 1)
            if bound > bounds[place]:
                bounds[place] = bound
                if place not in queued:
                    queued[place] = True
                    waiting.append(place)
    return [None if bound > most else bound for bound in bounds]


def means(game):
    """The list of the means of all positions, pairs of a numerator and a denominator."""
    count = len(game.moves)
    whole = 1
    for part in range(1, count + 1):
        whole = lcm(whole, part)
    prices = [price for pairs in game.moves for _, price in pairs]
    steps = {whole // part: True for part in range(1, count + 1)}
    # Means are told in parts of the whole: all that can be one, in ascending order.
    fitting = sorted(list({part: True for step in steps
                           for part in range(min(prices) * whole, max(prices) * whole + 1, step)}))
    found = [0] * count
    waiting = [(0, len(fitting), list(range(count)))]
    while waiting:
        low, high, places = waiting.pop()
        if high - low == 1:
            for place in places:
                found[place] = fitting[low]
        elif places:
            middle = (low + high) // 2
            kept = needs_above(game, fitting[middle], whole)
            waiting.append((low, middle, [place for place in places if kept[place] is None]))
            waiting.append((middle, high, [place for place in places if kept[place] is not None]))
    return [(part // gcd(part, whole), whole // gcd(part, whole)) for part in found]


def needs_above(game, part, whole):
    """The needs without a purse in the game in which each move costs a fraction part / whole besides."""
    common = gcd(part, whole)
    moves = []
    for pairs in game.moves:
        moves.append([(target, whole // common * price - part // common) for target, price in pairs])
    return lasting_needs(game.owners, moves)
