"""Slow and plain ways to find out what the program must answer, and random examples."""

import itertools

from promiseplay.buchi import Automaton
from promiseplay.errors import TooLarge
from promiseplay.machines import Machine
from promiseplay.specs import Spec
from promiseplay.spectext import parse_spec
from promiseplay.truth import holds


def letters_of(lasso, count):
    """The first letters of the word of a lasso."""
    head, loop = lasso
    letters = list(head)
    while len(letters) < count:
        letters.extend(loop)
    return letters[:count]


def is_lasso(value):
    """Whether a value has the form of a lasso."""
    if not (type(value) is tuple and len(value) == 2 and type(value[0]) is tuple and type(value[1]) is tuple):
        return False
    return len(value[1]) > 0 and all(type(a) is int and a >= 0 for a in value[0] + value[1])


def slow_normal(lasso):
    """The normal form of a lasso, found by trying all shorter ones."""
    head, loop = lasso
    enough = 2 * (len(head) + 2 * len(loop))
    wanted = letters_of(lasso, enough)
    for size in range(len(head) + 1):
        for period in range(1, len(loop) + 1):
            found = (tuple(wanted[:size]), tuple(wanted[size:size + period]))
            if letters_of(found, enough) == wanted:
                return found
    raise AssertionError("there is a normal form")


def all_lassos(letters, heads, loops):
    """All lassos with at most so many letters in the head and in the loop."""
    for size in range(heads + 1):
        for period in range(1, loops + 1):
            for head in itertools.product(range(letters), repeat=size):
                for loop in itertools.product(range(letters), repeat=period):
                    yield head, loop


def random_lasso(random, letters, heads=4, loops=4):
    head = tuple(random.randrange(letters) for _ in range(random.randint(0, heads)))
    return head, tuple(random.randrange(letters) for _ in range(random.randint(1, loops)))


def slow_accepts(rows, initial, accepting, lasso):
    """Whether a Buchi automaton accepts a word: some state comes back to itself through an accepting one."""
    head, loop = lasso
    states = set(initial)
    for letter in head:
        states = {t for s in states for t in rows[s][letter]}
    passing = {}
    for s in range(len(rows)):
        now = {(s, s in accepting)}
        for letter in loop:
            now = {(t, seen or t in accepting) for u, seen in now for t in rows[u][letter]}
        passing[s] = now
    closed = {s: set(now) for s, now in passing.items()}
    changed = True
    while changed:
        changed = False
        for s in closed:
            more = {(u, one or other) for t, one in closed[s] for u, other in passing[t]}
            if not more <= closed[s]:
                closed[s] |= more
                changed = True
    met = states | {t for s in states for t, _ in closed[s]}
    return any((s, True) in closed[s] for s in met)


FUTURE_ONE = ["next", "eventually", "always"]
PAST_ONE = ["previous", "weak_previous", "once", "historically"]
FUTURE_TWO = ["until", "weak_until", "release"]
PAST_TWO = ["since", "trigger"]
TEMPORAL = FUTURE_ONE + PAST_ONE + FUTURE_TWO + PAST_TWO
ONE = ["not"] + FUTURE_ONE + PAST_ONE
TWO = ["and", "or", "implies", "iff"] + FUTURE_TWO + PAST_TWO


class SlowTruth:
    """The truth of formulas by the very words of the document."""

    def __init__(self, names, lasso, operators):
        head, loop = lasso
        self.names = list(names)
        self.start = len(head) + operators * len(loop)
        self.period = len(loop)
        self.letters = letters_of(lasso, self.start + self.period)
        self.known = {}

    def at(self, formula, turn):
        if turn >= self.start:
            turn = self.start + (turn - self.start) % self.period
        place = (formula, turn)
        if place not in self.known:
            self.known[place] = self.find(formula, turn)
        return self.known[place]

    def find(self, formula, n):
        operator = formula[0]
        if operator in ("true", "false"):
            return operator == "true"
        if operator == "signal":
            return bool(self.letters[n] >> self.names.index(formula[1]) & 1)
        f = formula[1]
        g = formula[-1]
        later = range(n, max(n, self.start) + self.period)
        sooner = range(n + 1)
        if operator == "not":
            return not self.at(f, n)
        if operator == "and":
            return self.at(f, n) and self.at(g, n)
        if operator == "or":
            return self.at(f, n) or self.at(g, n)
        if operator == "implies":
            return not self.at(f, n) or self.at(g, n)
        if operator == "iff":
            return self.at(f, n) == self.at(g, n)
        if operator == "next":
            return self.at(f, n + 1)
        if operator == "eventually":
            return any(self.at(f, m) for m in later)
        if operator == "always":
            return all(self.at(f, m) for m in later)
        if operator in ("until", "weak_until"):
            if operator == "weak_until" and all(self.at(f, m) for m in later):
                return True
            return any(self.at(g, m) and all(self.at(f, k) for k in range(n, m)) for m in later)
        if operator == "release":
            return all(self.at(g, m) or any(self.at(f, k) for k in range(n, m)) for m in later)
        if operator == "previous":
            return n >= 1 and self.at(f, n - 1)
        if operator == "weak_previous":
            return n == 0 or self.at(f, n - 1)
        if operator == "once":
            return any(self.at(f, m) for m in sooner)
        if operator == "historically":
            return all(self.at(f, m) for m in sooner)
        if operator == "since":
            return any(self.at(g, m) and all(self.at(f, k) for k in range(m + 1, n + 1)) for m in sooner)
        assert operator == "trigger"
        return all(self.at(g, m) or any(self.at(f, k) for k in range(m + 1, n + 1)) for m in sooner)


def slow_holds(formula, names, lasso, turn=0):
    """Whether a formula is true at a turn."""
    return SlowTruth(names, lasso, 9).at(formula, turn)


def random_formula(random, names, temporal=4, doubling=2, depth=5):
    """A formula with at most so many temporal operators and so many operators iff and weak_until."""
    return grow(random, names, {"temporal": temporal, "doubling": doubling}, depth)


def grow(random, names, left, depth):
    if depth <= 1 or random.random() < 0.1:
        if names and random.random() < 0.92:
            return ("signal", random.choice(names))
        return (random.choice(["true", "false"]),)
    fits = [operator for operator in ONE + TWO
            if not (operator in TEMPORAL and left["temporal"] == 0)
            and not (operator in ("iff", "weak_until") and left["doubling"] == 0)]
    operator = random.choice(fits)
    left["temporal"] -= operator in TEMPORAL
    left["doubling"] -= operator in ("iff", "weak_until")
    first = grow(random, names, left, depth - 1)
    if operator in ONE:
        return (operator, first)
    return (operator, first, grow(random, names, left, depth - 1))


def random_automaton(random, states=4, letters=3):
    """The arguments of a Buchi automaton."""
    n = random.randint(1, states)
    m = random.randint(1, letters)
    dense = random.choice([0.2, 0.35, 0.5, 0.7])
    rows = [[[t for t in range(n) if random.random() < dense] for _ in range(m)] for _ in range(n)]
    initial = [s for s in range(n) if random.random() < 0.6]
    accepting = [s for s in range(n) if random.random() < 0.4]
    return m, initial, accepting, rows


def random_parity(random, states=5, letters=3, priorities=6):
    """The arguments of a parity automaton."""
    n = random.randint(1, states)
    m = random.randint(1, letters)
    rows = [[random.randrange(n) for _ in range(m)] for _ in range(n)]
    return m, random.randrange(n), [random.randrange(priorities) for _ in range(n)], rows


def slow_accepts_parity(start, priorities, rows, lasso):
    """Whether a parity automaton accepts a word: run long enough, then look at one more long stretch."""
    head, loop = lasso
    state = start
    for letter in list(head) + list(loop) * len(rows):
        state = rows[state][letter]
    seen = []
    for letter in list(loop) * len(rows):
        state = rows[state][letter]
        seen.append(priorities[state])
    # After len(rows) loops the states at the beginnings of loops repeat within len(rows) loops.
    return max(seen) % 2 == 0


def random_machine(random, inputs, outputs, lead, states=3):
    """A machine with at most so many states."""
    n = random.randint(1, states)
    rows = [[(random.randrange(n), random.randrange(outputs)) for _ in range(inputs)] for _ in range(n)]
    return Machine(inputs, outputs, lead, [random.randrange(outputs) for _ in range(max(0, -lead))], rows)


def slow_emitted(machine, heard):
    """The letters e(0), e(1), .. by the very words of the document."""
    state = 0
    emitted = []
    for letter in heard:
        state, told = machine.rows[state][letter]
        emitted.append(told)
    return emitted


def slow_said(machine, heard):
    """The letters o(0), o(1), .. that can be known when exactly these letters were heard."""
    emitted = slow_emitted(machine, heard)
    said = []
    turn = 0
    while turn + machine.lead < len(heard):
        said.append(emitted[turn + machine.lead] if turn + machine.lead >= 0 else machine.opening[turn])
        turn += 1
    return said


def slow_trace(machine, lasso, turns):
    """The first letters of a trace."""
    said = slow_said(machine, letters_of(lasso, turns + 3))
    return [i + machine.inputs * o for i, o in zip(letters_of(lasso, turns), said)]


def slow_play(machine, opponent, turns):
    """The first letters of a play: whoever can say a letter says it."""
    heard, said = [], []
    while min(len(heard), len(said)) < turns:
        more = slow_said(opponent, said)
        other = slow_said(machine, heard)
        assert more[:len(heard)] == heard and other[:len(said)] == said
        assert len(more) > len(heard) or len(other) > len(said)
        heard, said = more, other
    return [i + machine.inputs * o for i, o in zip(heard, said)][:turns]


def trace_automaton(machine):
    """A Buchi automaton of all traces of a machine: it checks what was said when it is emitted."""
    letters = machine.inputs * machine.outputs
    numbers = {(0, machine.opening): 0}
    rows = []
    while len(rows) < len(numbers):
        state, pending = list(numbers)[len(rows)]
        row = []
        for letter in range(letters):
            heard, said = letter % machine.inputs, letter // machine.inputs
            target, emitted = machine.rows[state][heard]
            fits, later = True, pending
            if machine.lead < 0:
                fits, later = pending[0] == said, pending[1:] + (emitted,)
            else:
                later = pending + (said,)
                if len(later) > machine.lead:
                    fits, later = later[0] == emitted, later[1:]
            row.append([numbers.setdefault((target, later), len(numbers))] if fits else [])
        rows.append(row)
    return Automaton(letters, [0], list(range(len(rows))), rows)


def random_properties(random, names, count, temporal=6, hidden=0.2):
    """Properties over some signals with at most so many temporal operators together."""
    found = []
    for _ in range(count):
        most = random.randint(0, min(3, temporal))
        extra = ("h",) if random.random() < hidden else ()
        formula = random_formula(random, list(names) + list(extra), most, 1, 5)
        temporal -= most
        found.append((random.choice(["exists", "forall"]), extra, formula) if extra else formula)
    return found


def random_spec(random, lead=None, negated=None, hidden=0.2, signals=2):
    """A specification of any kind."""
    inputs = ["a", "b", "c"][:random.randint(0, signals)]
    outputs = ["x", "y", "z"][:random.randint(0, signals)]
    lead = random.randint(-3, 2) if lead is None else lead
    negated = random.random() < 0.3 if negated is None else negated
    many = random.choice([0, 1, 1, 2, 2, 3])
    properties = random_properties(random, inputs + outputs, many + random.choice([0, 0, 1, 2]), 6, hidden)
    return Spec(inputs, outputs, lead, properties[many:], properties[:many], negated=negated)


def exchanged(lasso, first, second):
    """The word of the letters o + q * i for one of letters i + p * o, where first is p and second is q."""
    head, loop = lasso
    return tuple(a // first + second * (a % first) for a in head), tuple(a // first + second * (a % first) for a in loop)


def slow_satisfies(spec, lasso):
    """Whether a word satisfies a specification, by the words of the document."""
    def true(prop):
        if prop[0] in ("exists", "forall"):
            return holds(prop, list(spec.signals), lasso)
        return slow_holds(prop, spec.signals, lasso)
    kept = not all(true(prop) for prop in spec.assumptions) or all(true(prop) for prop in spec.guarantees)
    return not kept if spec.negated else kept


PATTERNS = ["G({i} -> F {o})", "G({o} -> X !{o})", "(G F {i}) -> G F {o}", "G({i} -> X {o} | XX {o})", "!{o} W {i}",
            "G(Y {i} -> {o})", "G(({i} S {j}) -> {o})", "G({o} <-> O {i})", "F G !{o}", "G(({i} & X {j}) -> X F {o})",
            "{i} U ({o} & X {u})", "G({o} -> ({u} R {i}))", "G F ({o} & {i})", "G({o} <-> ({i} <-> Y {o}))",
            "G({i} & !{j} -> {o})", "G(!{o} | !{u})", "G({i} -> ({o} U {j}))", "G({i} <-> X {o})", "G({o} <-> XX {i})",
            "G(H {i} -> {o})", "G({o} -> O {i})", "G F {o} & G F !{o}", "F({i} & {o}) | G {u}", "G({i} -> X({o} W {j}))",
            "{o} | X {o} | XX {i}", "G({i} -> !{o} & X {o})", "G((Y {o}) & {i} -> {o})", "G({o} -> Y {i} | YY {j})"]
HIDING = ["exists h: G(h <-> X {o}) & G(h -> {i} | {u})", "forall h: G(h -> F {i}) -> F(h & {o})",
          "exists h: h & G(h <-> X !h) & G(h -> ({o} <-> {i}))"]
ASSUMED = ["G F {i}", "G({i} -> X !{i})", "G({i} -> F !{i})", "F G {i}", "G({o} -> X {i})", "G({o} -> F {i})",
           "!{i} | X {j}", "G(!{i} | !{j})"]


def lively_spec(chance, inputs=2, outputs=2, lead=None, negated=None, hidden=0.1, most=3, assumed=True):
    """A specification made of things that specifications say."""
    while True:
        ins = ["a", "b", "c"][:chance.randint(0, inputs)]
        outs = ["x", "y", "z"][:chance.randint(0, outputs)]
        if not ins + outs:
            continue
        names = {"i": ins or outs, "j": ins + outs, "o": outs or ins, "u": ins + outs}
        lines = []
        kinds = ["assume"] * (chance.choice([0, 0, 1, 2]) if assumed else 0) + ["guarantee"] * chance.randint(1, most)
        for kind in kinds:
            table = ASSUMED if kind == "assume" else HIDING if chance.random() < hidden else PATTERNS
            text = chance.choice(table)
            lines.append(f"{kind} " + text.format(**{sign: chance.choice(some) for sign, some in names.items()}) + "\n")
        if chance.random() < 0.12 if negated is None else negated:
            lines.append("negated\n")
        own = chance.randint(-3, 2) if lead is None else lead
        head = " ".join(["inputs"] + ins) + "\n" + " ".join(["outputs"] + outs) + f"\nlead {own}\n"
        try:
            return parse_spec(head + "".join(lines))
        except TooLarge:
            continue


def machines_of(inputs, outputs, lead, states):
    """All machines with exactly so many states."""
    row = list(itertools.product(itertools.product(range(states), range(outputs)), repeat=inputs))
    for opening in itertools.product(range(outputs), repeat=max(0, -lead)):
        for rows in itertools.product(row, repeat=states):
            yield Machine(inputs, outputs, lead, opening, rows)


def is_numbered(machine):
    """Whether the states of a machine are numbered in the order in which they are first reached."""
    met = [0]
    for state in range(len(machine.rows)):
        if state >= len(met):
            return False
        for target, _ in machine.rows[state]:
            if target not in met:
                met.append(target)
    return met == list(range(len(machine.rows)))


def said_in(word, inputs):
    """The lasso of what is said in a word of letters i + inputs * o."""
    head, loop = word
    return tuple(a // inputs for a in head), tuple(a // inputs for a in loop)


def joined_words(first, second, size, turns=200):
    """The first letters of the word of first + size * second, turn by turn."""
    return [a + size * b for a, b in zip(letters_of(first, turns), letters_of(second, turns))]
