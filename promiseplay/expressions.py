"""Expressions for sets of finite words, and endless expressions for sets of infinite words."""

from promiseplay.buchi import Automaton, accepts
from promiseplay.errors import InvalidLetter, TooLarge
from promiseplay.operations import empty_automaton, trim
from promiseplay.places import Places
from promiseplay.positions import Positions
from promiseplay.profiles import image
from promiseplay.simulation import digits_of

MOST_STATES = 3
MOST_LETTERS = 4

NO_WORD = ("none",)
EMPTY_WORD = ("empty",)


def matches(expression, word):
    """Whether a word is one of the words of an expression."""
    positions = Positions()
    empty, firsts, lasts = positions.enter(expression)
    if not word:
        return empty
    bearers = {letter: positions.with_letter(letter) for letter in word}
    here = firsts & bearers[word[0]]
    for letter in word[1:]:
        here = image(positions.follow, here) & bearers[letter]
    return here & lasts != 0


def letters_in(pairs):
    """The list of the letters that occur in an endless expression."""
    found = {}
    waiting = [part for pair in pairs for part in pair]
    while waiting:
        part = waiting.pop()
        if part[0] == "letter":
            found[part[1]] = True
        else:
            waiting.extend(part[1:])
    return list(found)


def contains(pairs, lasso):
    """Whether the word of a lasso is one of the words of an endless expression."""
    head, loop = lasso
    # The letters of the word are numbered; all others need no more than one number together.
    known = Places()
    word = [known.number_of(letter) for letter in head]
    again = [known.number_of(letter) for letter in loop]
    others = len(known.order)
    columns = {letter: known.numbers.get(letter, others) for letter in letters_in(pairs)}
    return accepts(built_automaton(pairs, columns, others + 1), (tuple(word), tuple(again)))


def expression_automaton(pairs, letters):
    """A Buchi automaton of exactly the words of an endless expression."""
    columns = {letter: letter for letter in letters_in(pairs)}
    if min(columns, default=0) < 0 or max(columns, default=0) >= letters:
        raise InvalidLetter("a letter is none of the automaton")
    return built_automaton(pairs, columns, letters)


def built_automaton(pairs, columns, letters):
    """The automaton of an endless expression whose letters are read as other ones, told by columns."""
    if not pairs:
        return empty_automaton(letters)
    builder = Builder(columns, letters)
    for first, again in pairs:
        builder.add_pair(first, again)
    rows = [[sorted(entry) for entry in row] for row in builder.rows]
    return trim(Automaton(letters, builder.initial, builder.accepting, rows))


class Builder:
    """Builds the automaton of an endless expression, pair by pair.

    A state is the start of a pair or a position that was read last. A position of what
    is repeated has a second state, which accepts, for where it begins a word.
    """

    def __init__(self, columns, letters):
        self.columns = columns
        self.letters = letters
        self.initial = []
        self.accepting = []
        self.rows = []

    def add_pair(self, first, again):
        """Add the states of a pair of expressions."""
        ahead = Positions()
        empty, firsts, lasts = ahead.enter(first)
        loop = Positions()
        _, begins, ends = loop.enter(again)
        start = len(self.rows)
        inside = start + 1 + len(ahead.letters)
        numbers = {place: inside + len(loop.letters) + k for k, place in enumerate(digits_of(begins))}
        for _ in range(1 + len(ahead.letters) + len(loop.letters) + len(numbers)):
            self.rows.append([[] for _ in range(self.letters)])
        self.initial.append(start)
        self.accepting.extend(list(numbers.values()))
        # Each state may go on inside of its expression, or begin a word of what is repeated.
        self.add_steps(start, ahead, firsts, start + 1)
        for place, later in enumerate(ahead.follow):
            self.add_steps(start + 1 + place, ahead, later, start + 1)
        beginning = [start] if empty else []
        beginning.extend([start + 1 + place for place in digits_of(lasts)])
        for place, later in enumerate(loop.follow):
            states = [inside + place] + ([numbers[place]] if place in numbers else [])
            for state in states:
                self.add_steps(state, loop, later, inside)
            if (ends >> place) & 1:
                beginning.extend(states)
        for state in beginning:
            for place in numbers:
                self.add_step(state, loop.letters[place], numbers[place])

    def add_steps(self, state, positions, later, shift):
        """Add the steps from a state to positions, whose states begin at a number."""
        for place in digits_of(later):
            self.add_step(state, positions.letters[place], shift + place)

    def add_step(self, state, letter, target):
        """Add a step by a letter."""
        self.rows[state][self.columns[letter]].append(target)


def either_of(first, second):
    """An expression for the words of two expressions."""
    if first == NO_WORD:
        return second
    return first if second == NO_WORD else ("either", first, second)


def join_of(first, second):
    """An expression for a word of one expression followed by one of another."""
    if NO_WORD in (first, second):
        return NO_WORD
    if first == EMPTY_WORD:
        return second
    return first if second == EMPTY_WORD else ("join", first, second)


def star_of(expression):
    """An expression for any number of words of an expression."""
    return EMPTY_WORD if expression == NO_WORD else ("star", expression)


def step_expression(row, target):
    """An expression for the letters that lead from the state of a row to a target."""
    found = NO_WORD
    for letter, entry in enumerate(row):
        if target in entry:
            found = either_of(found, ("letter", letter))
    return found


def path_expressions(automaton):
    """For each two states an expression for the non-empty words that lead from one to the other."""
    states = range(len(automaton.rows))
    found = [[step_expression(row, target) for target in states] for row in automaton.rows]
    for middle in states:
        around = star_of(found[middle][middle])
        later = []
        for row in found:
            way = join_of(row[middle], around)
            later.append([either_of(row[target], join_of(way, found[middle][target])) for target in states])
        found = later
    return found


def automaton_expression(automaton):
    """An endless expression for exactly the words that a Buchi automaton accepts."""
    if len(automaton.rows) > MOST_STATES or automaton.letters > MOST_LETTERS:
        raise TooLarge("the automaton has too many states or letters")
    paths = path_expressions(automaton)
    pairs = []
    for start in automaton.initial:
        for state in automaton.accepting:
            ahead = paths[start][state]
            if start == state:
                ahead = either_of(EMPTY_WORD, ahead)
            if NO_WORD not in (ahead, paths[state][state]):
                pairs.append((ahead, paths[state][state]))
    return tuple(pairs)
