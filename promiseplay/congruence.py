"""The finite words that a Buchi automaton does not tell apart, and whether it counts."""

from promiseplay.places import Places
from promiseplay.profiles import Profiles, endless, image, joined, spread_words
from promiseplay.reduction import smaller
from promiseplay.refinement import coarsest
from promiseplay.trees import mask_of


class Contexts:
    """What can stand before and behind a finite word.

    `heads` has the sets of states, as digits, that words lead to from the beginning, each
    with such a word. `tails` has the sets of states from which a word y z z z and so on
    is accepted, each with such y and z.
    """

    def __init__(self, automaton):
        self.profiles = Profiles(automaton)
        forward = [leads for leads, _ in self.profiles.letters]
        self.heads = spread_words(mask_of(automaton.initial), forward)
        loops = {}
        for number, profile in enumerate(self.profiles.order):
            loops.setdefault(endless(profile), number)
        self.tails = {}
        backward = [turned_round(leads) for leads in forward]
        for mask in list(loops):
            found = spread_words(mask, backward)
            for value in found:
                self.tails.setdefault(value, (list(reversed(found[value])), self.profiles.word(loops[mask])))

    def between(self, first, second):
        """The first head that meets exactly one of two sets of states, or None."""
        for head in self.heads:
            if (head & first == 0) != (head & second == 0):
                return self.heads[head]
        return None


def turned_round(leads):
    """For each state the states, as digits, from which masks lead to it."""
    return [mask_of([source for source, mask in enumerate(leads) if (mask >> state) & 1])
            for state in range(len(leads))]


def separating_context(automaton, first, second):
    """None if two words are congruent, otherwise a context that makes an accepted word of exactly one."""
    contexts = Contexts(smaller(automaton))
    profiles = contexts.profiles
    left = profiles.of_word(first)
    right = profiles.of_word(second)
    for tail in contexts.tails:
        head = contexts.between(before(left, tail), before(right, tail))
        if head is not None:
            middle, loop = contexts.tails[tail]
            return ("linear", tuple(head), tuple(middle), tuple(loop))
    head = contexts.between(endless(left), endless(right))
    if head is not None:
        return ("circular", tuple(head), ())
    for number, profile in enumerate(profiles.order):
        head = contexts.between(endless(joined(left, profile)), endless(joined(right, profile)))
        if head is not None:
            return ("circular", tuple(head), tuple(profiles.word(number)))
    return None


def before(profile, states):
    """The states, as digits, from which the word of a profile leads to one of some states."""
    return mask_of([state for state, mask in enumerate(profile[0]) if mask & states])


def exponent(automaton):
    """The exponent of an automaton if it is aperiodic, otherwise None."""
    contexts = Contexts(smaller(automaton))
    profiles = contexts.profiles
    classes = coarsest(labels_of(contexts), profiles.rows)
    rows = {}
    members = {}
    for number, row in enumerate(profiles.rows):
        if classes[number] not in rows:
            rows[classes[number]] = [classes[target] for target in row]
            members[classes[number]] = number
    greatest = 1
    for number in rows:
        least = least_power(number, profiles.word(members[number]), rows)
        if least is None:
            return None
        greatest = max(greatest, least)
    return greatest


def labels_of(contexts):
    """For each profile what contexts without anything behind the word in a circle tell of it."""
    heads = list(contexts.heads)
    tails = list(contexts.tails)
    # Sets of states that meet the same tails are not told apart.
    kinds = Places()
    known = {}
    labels = []
    for profile in contexts.profiles.order:
        seen = []
        for head in heads:
            states = image(profile[0], head)
            if states not in known:
                known[states] = kinds.number_of(tuple([states & tail != 0 for tail in tails]))
            seen.append(known[states])
        loop = endless(profile)
        labels.append((tuple(seen), tuple([head & loop != 0 for head in heads])))
    return labels


def least_power(number, word, rows):
    """The least k such that a word of a class has its powers k and k + 1 in one class, or None."""
    powers = Places()
    powers.number_of(number)
    while True:
        here = powers.order[-1]
        later = here
        for letter in word:
            later = rows[later][letter]
        if later == here:
            return len(powers.order)
        if powers.number_of(later) < len(powers.order) - 1:
            return None
