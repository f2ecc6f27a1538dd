"""How the claims of one turn lead to those of the next.

A run claims formulas to be true at its turns. Between two turns it has assets, the
operators of the past of which the earlier turn lets something be said, and duties,
the claims that the later turn must make; both are kept as binary digits. A run of a
formula exists exactly if its first turn can claim the formula and no "until" is
put off for ever. Having more assets and fewer duties never does harm, so only the
best ways to go on are kept.
"""

from promiseplay.claims import TRUE, Claims
from promiseplay.formulas import normal_form

# What a claim costs is a list of pairs of the duties and the "until"s put off (both as
# digits), one pair for each way to make it.
FREE = ((0, 0),)


def cheapest(costs):
    """The list of those pairs that no other pair is better than."""
    kept = []
    for duties, late in sorted(costs):
        # Fewer digits make a smaller number, so what is better stands further left.
        if not any([duties & less == less and late & early == early for less, early in kept]):
            kept.append((duties, late))
    return kept


def either(first, second):
    """What it costs to make one of two claims."""
    return cheapest(list(first) + list(second))


def both(first, second):
    """What it costs to make two claims."""
    if first == FREE:
        return second
    if second == FREE:
        return first
    return cheapest([(one | other, late | later) for one, late in first for other, later in second])


class Expansion:
    """The claims of a formula over some signals, with the kinds of letters that it tells apart."""

    def __init__(self, formula, signals):
        self.claims = Claims(signals)
        self.root = self.claims.enter(normal_form(formula))
        self.duties = []
        self.duty_digits = {}
        self.tops = self.plain_tops()
        self.support = self.used_signals()
        self.kinds = {}
        self.kind_of_letter = {}
        self.truths = []
        self.moments = {}
        self.known_moves = {}

    def plain_tops(self):
        """The claims without temporal operators that stand directly below one, or at the top."""
        claims = self.claims
        tops = {self.root: True} if claims.plain[self.root] else {}
        for number in range(len(claims.operators)):
            if not claims.plain[number]:
                for part in (claims.lefts[number], claims.rights[number]):
                    if claims.plain[part]:
                        tops[part] = True
        return sorted(list(tops))

    def used_signals(self):
        """The letter in which exactly the signals of the formula are true."""
        claims = self.claims
        used = 0
        for number, operator in enumerate(claims.operators):
            if operator == "literal":
                used |= 1 << claims.lefts[number]
        return used

    def kind(self, letter):
        """The number of the kind of a letter: letters of one kind make the same claims true."""
        seen = letter & self.support
        if seen not in self.kind_of_letter:
            truth = self.plain_truth(seen)
            pattern = tuple([truth[top] for top in self.tops])
            if pattern not in self.kinds:
                self.kinds[pattern] = len(self.truths)
                self.truths.append({top: truth[top] for top in self.tops})
            self.kind_of_letter[seen] = self.kinds[pattern]
        return self.kind_of_letter[seen]

    def plain_truth(self, letter):
        """The list with the truth of each claim without temporal operators; None for others."""
        claims = self.claims
        truth = []
        for number, operator in enumerate(claims.operators):
            left = claims.lefts[number]
            if not claims.plain[number]:
                truth.append(None)
            elif operator == "literal":
                truth.append((letter >> left) & 1 == claims.rights[number])
            elif operator == "and":
                truth.append(truth[left] and truth[claims.rights[number]])
            elif operator == "or":
                truth.append(truth[left] or truth[claims.rights[number]])
            else:
                truth.append(operator == "true")
        return truth

    def duty(self, number):
        """The digits of the duty to make a claim."""
        if number == TRUE:
            return 0
        if self.claims.operators[number] == "and" and not self.claims.plain[number]:
            return self.duty(self.claims.lefts[number]) | self.duty(self.claims.rights[number])
        if number not in self.duty_digits:
            self.duty_digits[number] = 1 << len(self.duties)
            self.duties.append(number)
        return self.duty_digits[number]

    def duty_list(self, duties):
        """The numbers of the claims that are duties."""
        return [number for digit, number in enumerate(self.duties) if (duties >> digit) & 1]

    def assets_below(self, duties):
        """The assets that may matter for some duties."""
        below = 0
        for number in self.duty_list(duties):
            below |= self.claims.below[number]
        return below

    def moves(self, kind, assets, duties, kept=0):
        """The best ways to read a letter of a kind with some assets and duties.

        A way is a tuple of the assets and the duties afterwards and the "until"s put
        off. Assets that do not matter are left out, except those of kept.
        """
        place = (kind, assets, duties, kept)
        if place not in self.known_moves:
            if (kind, assets) not in self.moments:
                self.moments[(kind, assets)] = Moment(self, kind, assets)
            self.known_moves[place] = self.moments[(kind, assets)].find_moves(duties, kept)
        return self.known_moves[place]


class Moment:
    """A turn with a letter of a kind and with assets: what each claim costs then."""

    def __init__(self, expansion, kind, assets):
        self.expansion = expansion
        self.claims = expansion.claims
        self.truth = expansion.truths[kind]
        self.assets = assets
        self.costs = {}

    def cost(self, number):
        """What it costs to make a claim."""
        if number not in self.costs:
            if self.claims.plain[number]:
                self.costs[number] = FREE if self.truth[number] else ()
            else:
                self.costs[number] = tuple(self.find_cost(number))
        return self.costs[number]

    def find_cost(self, number):
        """What it costs to make a claim that has a temporal operator."""
        operator = self.claims.operators[number]
        left = self.claims.lefts[number]
        right = self.claims.rights[number]
        if operator == "and":
            return both(self.cost(left), self.cost(right))
        if operator == "or":
            return either(self.cost(left), self.cost(right))
        if operator == "next":
            return ((self.expansion.duty(left), 0),)
        if operator == "until":
            later = self.expansion.duty(number)
            return either(self.cost(right), both(self.cost(left), ((later, later),)))
        if operator == "release":
            return both(self.cost(right), either(self.cost(left), ((self.expansion.duty(number), 0),)))
        held = (self.assets >> self.claims.past_digits[number]) & 1
        if operator == "since":
            return either(self.cost(right), self.cost(left)) if held else self.cost(right)
        if operator == "trigger":
            return self.cost(right) if held else both(self.cost(right), self.cost(left))
        return FREE if held else ()

    def asset_cost(self, digit):
        """What it costs to have an asset afterwards."""
        number = self.claims.past[digit]
        if self.claims.operators[number] in ("since", "trigger"):
            return self.cost(number)
        return self.cost(self.claims.lefts[number])

    def find_moves(self, duties, kept):
        """The best ways to go on with some duties."""
        costs = FREE
        for number in self.expansion.duty_list(duties):
            costs = both(costs, self.cost(number))
        ways = [(0, later, late) for later, late in costs]
        matter = self.expansion.assets_below(duties) | kept
        for digit in range(len(self.claims.past)):
            if (matter >> digit) & 1:
                ways = with_asset(ways, 1 << digit, self.asset_cost(digit))
        trimmed = []
        for assets, later, late in ways:
            trimmed.append((assets & (self.expansion.assets_below(later) | kept), later, late))
        return best_ways(trimmed)


def with_asset(ways, digit, costs):
    """The ways to go on that have or do not have an asset which costs something."""
    if costs == FREE:
        return [(assets | digit, later, late) for assets, later, late in ways]
    more = list(ways)
    for assets, later, late in ways:
        for duties, put_off in costs:
            more.append((assets | digit, later | duties, late | put_off))
    return more


def best_ways(ways):
    """The list of those ways that no other way is better than, in a fixed order."""
    kept = []
    # What is better has fewer duties, then fewer delays, then more assets: it stands further left.
    for duties, late, lack in sorted([(duties, late, -assets) for assets, duties, late in ways]):
        way = (-lack, duties, late)
        if not any([is_better(other, way) for other in kept]):
            kept.append(way)
    return kept


def is_better(first, second):
    """Whether a way has all assets of another one, and no duty or delay besides those of it."""
    more = first[0] & second[0] == second[0]
    return more and first[1] & second[1] == first[1] and first[2] & second[2] == first[2]
