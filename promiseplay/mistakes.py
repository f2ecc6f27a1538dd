"""Judges of words that were heard wrongly in a few turns.

Behind each finite word the true one may have led a judge to several states. All these
runs are kept, each with the least number of mistakes that lead to it, and older ones
stand first. A run goes when an older one with no more mistakes accepts all that it
accepts. To see whether some run accepts a word, guesses are made again and again as to
the greatest rank that it will have again and again. They stand in the order of their
age, too, and a guess goes when it fails or when an older one accepts all that it
accepts. If a word is accepted, some guess stays for ever and is seen to be right
again and again.
"""

from promiseplay.conditions import spec_judge
from promiseplay.inclusion import contained_guesses, contained_states, hopeful_states, ranks_with
from promiseplay.judges import ends_of, opposite_judge, settled
from promiseplay.letters import columns_of, grouped
from promiseplay.places import Places

# The place from which each word is accepted.
ALL = ((), (-1,))


class Mistakes:
    """The runs of a judge on what may be true where something is heard, with at most so many mistakes.

    Letters are taken together if the judge does not tell them apart; `kinds` has the
    kind of each letter of the judge. `choices` has for what can be heard and said a pair
    of the kind as it is heard, and the tuple of the other kinds that may be true; `table`
    has the index of one for each letter. A guess has the number state * (number of even
    ranks) + (index of its rank).
    """

    def __init__(self, judge, inputs, faults):
        self.faults = faults
        columns = zip(columns_of(judge.rows, judge.letters), columns_of(judge.ranks, judge.letters))
        self.kinds, firsts = grouped(list(columns))
        self.rows = [[row[letter] for letter in firsts] for row in judge.rows]
        self.ranks = [[told[letter] for letter in firsts] for told in judge.ranks]
        self.table, letters = grouped([self.choice_at(letter, inputs) for letter in range(judge.letters)])
        self.choices = [self.choice_at(letter, inputs) for letter in letters]
        self.accepts_all = [end == (0,) for end in ends_of(judge)]
        self.accepts_none = [end == (1,) for end in ends_of(judge)]
        self.contained = contained_states(self.rows, self.ranks)
        self.evens = ranks_with(self.ranks, 0)
        self.hopeful = [hopeful_states(self.rows, self.ranks, most, self.accepts_all) for most in self.evens]
        self.known = {}
        self.places = Places()

    def choice_at(self, letter, inputs):
        """The kind of a letter, and those of the other letters with the same output."""
        said = letter - letter % inputs
        others = {self.kinds[said + heard]: True for heard in range(inputs)}
        return self.kinds[letter], tuple([kind for kind in sorted(list(others)) if kind != self.kinds[letter]])

    def is_contained(self, guess, other):
        """Whether a guess accepts only what another one accepts."""
        ranks = (guess % len(self.evens), other % len(self.evens))
        if ranks not in self.known:
            self.known[ranks] = contained_guesses(self.rows, self.ranks, self.evens[ranks[0]], self.evens[ranks[1]])
        return self.known[ranks][guess // len(self.evens)][other // len(self.evens)]

    def needed_runs(self, runs):
        """Those of some runs that are needed, pairs of a state and a number of mistakes; None if one accepts all."""
        kept = {}
        for state, count in runs:
            if self.accepts_all[state]:
                return None
            if state in kept:
                # Both runs go on in the same way, and fewer mistakes are better.
                kept[state] = min(count, kept[state])
            elif not self.accepts_none[state] and not self.is_needless(state, count, kept):
                kept[state] = count
        return [(state, kept[state]) for state in kept]

    def is_needless(self, state, count, kept):
        """Whether a run that is kept makes another one needless."""
        contained = self.contained[state]
        return any([contained[other] and kept[other] <= count for other in kept])

    def runs_after(self, runs, choice):
        """The runs behind what can be heard and said."""
        kind, others = choice
        found = {(self.rows[state][kind], count): True for state, count in runs}
        for state, count in runs:
            if count < self.faults:
                for other in others:
                    found[(self.rows[state][other], count + 1)] = True
        return self.needed_runs(list(found))

    def guesses_after(self, guesses, kind):
        """The guesses that are left behind a kind of letters, and the rank of this step."""
        kept = []
        event = 1
        most = 2 * len(self.evens) * len(self.rows)
        for age, guess in enumerate(guesses):
            state, number = divmod(guess, len(self.evens))
            rank = self.ranks[state][kind]
            later = self.rows[state][kind] * len(self.evens) + number
            if rank > self.evens[number] or not self.is_wanted(later, kept):
                event = max(event, most - 2 * age + 1)
            else:
                kept.append(later)
                if rank == self.evens[number]:
                    event = max(event, most - 2 * age)
        return kept, event

    def is_wanted(self, guess, kept):
        """Whether a guess can come true, and none that is kept makes it needless."""
        state, number = divmod(guess, len(self.evens))
        return self.hopeful[number][state] and not any([self.is_contained(guess, other) for other in kept])

    def place(self, runs, guesses):
        """The number of the place with some runs and guesses, with all new guesses that are wanted."""
        if runs is None:
            return self.places.number_of(ALL)
        kept = list(guesses)
        for state, _ in runs:
            for number in range(len(self.evens)):
                if self.is_wanted(state * len(self.evens) + number, kept):
                    kept.append(state * len(self.evens) + number)
        return self.places.number_of((tuple(runs), tuple(kept)))

    def judge(self):
        """The judge of what is heard and said."""
        self.place(self.needed_runs([(0, 0)]), [])
        rows = []
        ranks = []
        while self.places.waits(rows):
            place = self.places.first_without(rows)
            row = []
            told = []
            for choice in self.choices:
                if place == ALL:
                    target, event = len(rows), 0
                else:
                    guesses, event = self.guesses_after(place[1], choice[0])
                    target = self.place(self.runs_after(place[0], choice), guesses)
                row.append(target)
                told.append(event)
            rows.append(row)
            ranks.append(told)
        return settled(rows, ranks, self.table)


def bearing_judge(spec, faults):
    """A judge of what is heard and said where all true words with at most so many faults satisfy a specification."""
    judge = spec_judge(spec)
    if faults == 0 or not spec.inputs:
        return judge
    return opposite_judge(Mistakes(opposite_judge(judge), 1 << len(spec.inputs), faults).judge())
