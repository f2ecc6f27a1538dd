"""Two systems that see and say different things."""

from promiseplay.blanks import Blanks, Ground, Hand
from promiseplay.courses import check_machine
from promiseplay.errors import InvalidShares
from promiseplay.fillings import Filling
from promiseplay.machines import Machine
from promiseplay.minimization import minimize
from promiseplay.places import Places
from promiseplay.signals import part_table


def check_shares(spec, shares):
    """Raise InvalidShares if a pair is no shares of a specification."""
    if len(shares) != 2:
        raise InvalidShares("there are not two shares")
    told = []
    for seen, words in shares:
        if not is_part(spec.inputs, seen) or not is_part(spec.outputs, words):
            raise InvalidShares("names are wrong, or not in their order")
        told.extend(words)
    if sorted(told) != sorted(spec.outputs):
        raise InvalidShares("an output does not stand in exactly one share")


def is_part(names, chosen):
    """Whether a tuple has different ones of some names, in their order."""
    return [name for name in names if name in chosen] == list(chosen)


def hand_of(spec, one_share, states):
    """The shape of a machine with a share and so many states."""
    seen, words = one_share
    places = [spec.outputs.index(name) for name in words]
    says = []
    for letter in range(1 << len(words)):
        says.append(sum([((letter >> k) & 1) << place for k, place in enumerate(places)]))
    return Hand(states, part_table(spec.inputs, seen), says)


def joined(spec, shares, pair):
    """The machine that hears all inputs and says what a joint system says."""
    check_shares(spec, shares)
    for (seen, words), machine in zip(shares, pair):
        check_machine(machine, 1 << len(seen), 1 << len(words), spec.lead)
    hands = [hand_of(spec, one_share, 1) for one_share in shares]
    places = Places()
    places.number_of((0, 0))
    rows = []
    while places.waits(rows):
        states = places.first_without(rows)
        row = []
        for heard in range(1 << len(spec.inputs)):
            steps = [pair[k].rows[states[k]][hand.hears[heard]] for k, hand in enumerate(hands)]
            target = places.number_of((steps[0][0], steps[1][0]))
            row.append((target, hands[0].says[steps[0][1]] + hands[1].says[steps[1][1]]))
        rows.append(row)
    opening = [hands[0].says[one] + hands[1].says[other] for one, other in zip(pair[0].opening, pair[1].opening)]
    return Machine(1 << len(spec.inputs), 1 << len(spec.outputs), spec.lead, opening, rows)


def joint_system(spec, shares, limits):
    """A pair of machines with at most so many states that meets a specification together, or None."""
    check_shares(spec, shares)
    hands = []
    for one_share, limit in zip(shares, limits):
        # States are of use to a machine only if it says something.
        hands.append(hand_of(spec, one_share, limit if one_share[1] else 1))
    blanks = Blanks(Ground(spec), hands)
    filling = Filling(blanks)
    if not filling.fill():
        return None
    return minimize(blanks.machine(0, filling.given)), minimize(blanks.machine(1, filling.given))
