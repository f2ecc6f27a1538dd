"""What finite words do to the states of a Buchi automaton.

The profile of a finite word is a pair of tuples with an entry for each state: the
states, as binary digits, to which the word leads from it, and those to which it leads
by way of an accepting state.
"""

from promiseplay.places import Places
from promiseplay.simulation import digits_of
from promiseplay.trees import mask_of


def image(masks, states):
    """The states, as digits, that the masks have for some states, as digits."""
    found = 0
    for state in digits_of(states):
        found |= masks[state]
    return found


def joined(first, second):
    """The profile of two words one after the other."""
    leads = tuple([image(second[0], mask) for mask in first[0]])
    passes = []
    for state, mask in enumerate(first[1]):
        passes.append(image(second[0], mask) | image(second[1], first[0][state]))
    return leads, tuple(passes)


def letter_profile(automaton, letter):
    """The profile of a letter."""
    accepting = mask_of(automaton.accepting)
    leads = [mask_of(row[letter]) for row in automaton.rows]
    return tuple(leads), tuple([mask & accepting for mask in leads])


def endless(profile):
    """The states, as digits, from which the word of a profile, again and again without end, is accepted."""
    leads, passes = profile
    reach = closure(leads)
    # A state is good if it leads to itself by way of an accepting state.
    good = 0
    for state in range(len(leads)):
        if (image(reach, passes[state]) >> state) & 1:
            good |= 1 << state
    return mask_of([state for state, mask in enumerate(reach) if mask & good])


def closure(leads):
    """For each state the states, as digits, to which any number of steps lead, none included."""
    reach = [mask | 1 << state for state, mask in enumerate(leads)]
    states = range(len(leads))
    for middle in states:
        for state in states:
            if (reach[state] >> middle) & 1:
                reach[state] |= reach[middle]
    return reach


class Profiles:
    """The profiles of all non-empty words over the letters of an automaton.

    `order` has them, `rows` the index of the profile behind each letter, and `before`
    the index of the profile of the word without its last letter (-1 for a letter alone)
    with this letter.
    """

    def __init__(self, automaton):
        self.letters = [letter_profile(automaton, letter) for letter in range(automaton.letters)]
        places = Places()
        self.before = []
        for letter, profile in enumerate(self.letters):
            if places.number_of(profile) == len(self.before):
                self.before.append((-1, letter))
        self.rows = []
        while places.waits(self.rows):
            here = len(self.rows)
            row = []
            for letter, profile in enumerate(self.letters):
                number = places.number_of(joined(places.order[here], profile))
                if number == len(self.before):
                    self.before.append((here, letter))
                row.append(number)
            self.rows.append(row)
        self.order = places.order

    def word(self, number):
        """A word, as a list, with the profile of a number."""
        letters = []
        while number >= 0:
            number, letter = self.before[number]
            letters.append(letter)
        letters.reverse()
        return letters

    def of_word(self, word):
        """The profile of a non-empty word."""
        found = self.letters[word[0]]
        for letter in word[1:]:
            found = joined(found, self.letters[letter])
        return found


def spread_words(start, steps):
    """The sets of states to which steps lead from a set, each with a word that leads there.

    steps has a list of masks for each letter, and a letter leads from a set of states,
    as digits, to its image.
    """
    found = {start: []}
    waiting = [start]
    at = 0
    while at < len(waiting):
        for letter, masks in enumerate(steps):
            value = image(masks, waiting[at])
            if value not in found:
                found[value] = found[waiting[at]] + [letter]
                waiting.append(value)
        at += 1
    return found
