"""Making systems with delays smaller.

A system has for each state and each letter a list of steps: pairs of a successor and
a delay, an integer whose digits tell what is put off. A run is fair if no digit is
put off at all of its steps from some turn on. A state follows another one if it can
answer each of its steps by a step that puts off no more, to a state that follows the
successor again. Then it has all fair runs, too.
"""
from promiseplay.places import Places

# Above this product of states and states and letters, looking for followers takes too long.
MOST_WORK = 8000000


def digits_of(mask):
    """The ascending list of the indexes of the binary digits 1 of a number."""
    found = []
    while mask:
        low = mask & -mask
        found.append(low.bit_length() - 1)
        mask ^= low
    return found


class Followers:
    """The followers of all states of a system, as digits; each state is one of its own."""

    def __init__(self, system):
        self.system = system
        self.delays = delays_of(system)
        self.sources = self.find_sources()
        self.known = {}
        self.masks = [(1 << len(system)) - 1 for _ in system]

    def find_sources(self):
        """The states with a step to a state by a letter that puts off no more than a delay."""
        sources = {}
        for state, row in enumerate(self.system):
            for letter, steps in enumerate(row):
                for target, late in steps:
                    for delay in self.delays:
                        if late & delay == late:
                            place = (letter, target, delay)
                            sources[place] = sources.get(place, 0) | 1 << state
        return sources

    def answering(self, letter, targets, delay):
        """The states that have a step by a letter to one of some targets with at most a delay."""
        place = (letter, targets, delay)
        if place not in self.known:
            found = 0
            for target in digits_of(targets):
                found |= self.sources.get((letter, target, delay), 0)
            self.known[place] = found
        return self.known[place]

    def shrink(self, state):
        """Take away the followers of a state that cannot answer all its steps; tell whether there were some."""
        mask = self.masks[state]
        for letter, steps in enumerate(self.system[state]):
            for target, late in steps:
                mask &= self.answering(letter, self.masks[target], late)
        changed = mask != self.masks[state]
        self.masks[state] = mask
        return changed

    def shrink_all(self):
        """The list of the followers of each state."""
        changed = True
        while changed:
            changed = any([self.shrink(state) for state in range(len(self.system))])
        return self.masks


def delays_of(system):
    """The list of all delays of a system."""
    delays = {}
    for row in system:
        for steps in row:
            for _, late in steps:
                delays[late] = True
    return sorted(list(delays))


def followers(system):
    """The followers of each state of a system, as digits; in a large system each state alone."""
    if system and len(system) * len(system) * len(system[0]) > MOST_WORK:
        return [1 << state for state in range(len(system))]
    return Followers(system).shrink_all()


def reduced(system, starts):
    """The system with one state for all states that follow each other, and its starts.

    Steps that another step of the same state and letter makes needless are left
    out, and states that cannot be reached then.
    """
    masks = followers(system)
    chosen = []
    for state, mask in enumerate(masks):
        alike = [other for other in digits_of(mask) if (masks[other] >> state) & 1]
        chosen.append(alike[0])
    places = Places()
    new_starts = []
    for state in best_states([chosen[start] for start in starts], masks):
        new_starts.append(places.number_of(state))
    rows = []
    while places.waits(rows):
        row = []
        for steps in system[places.first_without(rows)]:
            kept = best_steps([(chosen[target], late) for target, late in steps], masks)
            row.append([(places.number_of(target), late) for target, late in kept])
        rows.append(row)
    return rows, new_starts


def best_states(states, masks):
    """Those states, each once, that no other one of them follows."""
    kept = sorted(list({state: True for state in states}))
    return [state for state in kept if not [other for other in kept
                                            if other != state and (masks[state] >> other) & 1]]


def best_steps(steps, masks):
    """Those steps, each once, that no other one of them can answer."""
    kept = sorted(list({step: True for step in steps}))
    return [step for step in kept if not [other for other in kept
                                          if other != step and answers(other, step, masks)]]


def answers(first, second, masks):
    """Whether a step can answer another one."""
    return (masks[second[0]] >> first[0]) & 1 == 1 and first[1] & second[1] == first[1]
