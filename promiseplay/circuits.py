"""Circuits of gates and latches."""

from promiseplay.errors import InvalidCircuit, InvalidLetter, Mismatch
from promiseplay.gates import ZERO, Decisions, Gates
from promiseplay.machines import Machine, are_below
from promiseplay.minimization import first_separating, minimize
from promiseplay.places import Places

MOST_WIRES = 6
MOST_LATCHES = 12
MOST_GATES = 4000
MOST_OUTS = 6

# The steps of so many neighbouring latch values are worked out together.
TOGETHER = 64


class Circuit:
    """A circuit; its gates are pairs of literals of nodes ahead of them."""

    def __init__(self, wires, starts, gates, nexts, outs):
        if wires < 0 or wires > MOST_WIRES or len(starts) > MOST_LATCHES or len(nexts) != len(starts):
            raise InvalidCircuit("there are too many wires or latches, or the nexts do not fit")
        if len(gates) > MOST_GATES or len(outs) > MOST_OUTS or not are_below(starts, 2):
            raise InvalidCircuit("there are too many gates or outs, or a start is wrong")
        ahead = 1 + wires + len(starts)
        for number, pair in enumerate(gates):
            if len(pair) != 2 or not are_below(pair, 2 * (ahead + number)):
                raise InvalidCircuit("a gate has a literal of no node ahead of it")
        literals = 2 * (ahead + len(gates))
        if not are_below(nexts, literals) or not are_below(outs, literals):
            raise InvalidCircuit("a next or an out is a literal of no node")
        self.wires = wires
        self.starts = tuple(starts)
        self.gates = tuple([tuple(pair) for pair in gates])
        self.nexts = tuple(nexts)
        self.outs = tuple(outs)

    def __call__(self, heard):
        """The list of the letters that the circuit emits when it hears a list of letters."""
        if not are_below(heard, 1 << self.wires):
            raise InvalidLetter("a letter is none of the circuit")
        emitted = []
        latches = list(self.starts)
        for letter in heard:
            wires = [(letter >> k) & 1 for k in range(self.wires)]
            values = node_values(self, wires + latches, 1)
            emitted.append(number_of([literal_value(values, out, 1) for out in self.outs]))
            latches = [literal_value(values, later, 1) for later in self.nexts]
        return emitted


def node_values(circuit, known, mask):
    """The values of all nodes; known has those of the wires and latches.

    A value may have many binary digits, which are worked out at once. In the mask all of them are 1.
    """
    values = [0] + known
    for first, second in circuit.gates:
        values.append(literal_value(values, first, mask) & literal_value(values, second, mask))
    return values


def literal_value(values, literal, mask):
    """The value of a literal."""
    return values[literal // 2] ^ mask if literal % 2 == 1 else values[literal // 2]


def number_of(digits):
    """The number that has some binary digits, the first one having the weight 1."""
    return int("0" + "".join([str(digit) for digit in reversed(digits)]), 2)


class Steps:
    """The steps of a circuit: the next value of its latches and the letter emitted, for each value and letter."""

    def __init__(self, circuit):
        self.circuit = circuit
        self.letters = 1 << circuit.wires
        self.known = {}

    def row(self, value):
        """The list of the pairs of the next value of the latches and the letter emitted, for each letter."""
        if value not in self.known:
            self.find_rows(value - value % TOGETHER)
        return self.known[value]

    def find_rows(self, start):
        """Work out the rows of some values from a start on."""
        latches = len(self.circuit.starts)
        values = list(range(start, min(start + TOGETHER, 1 << latches)))
        cases = [(value, letter) for value in values for letter in range(self.letters)]
        known = [number_of([(letter >> k) & 1 for _, letter in cases]) for k in range(self.circuit.wires)]
        known = known + [number_of([(value >> k) & 1 for value, _ in cases]) for k in range(latches)]
        mask = (1 << len(cases)) - 1
        nodes = node_values(self.circuit, known, mask)
        later = numbers_in([literal_value(nodes, literal, mask) for literal in self.circuit.nexts], len(cases))
        told = numbers_in([literal_value(nodes, literal, mask) for literal in self.circuit.outs], len(cases))
        pairs = list(zip(later, told))
        for number, value in enumerate(values):
            self.known[value] = pairs[number * self.letters:(number + 1) * self.letters]


def numbers_in(columns, count):
    """For each of count cases the number whose digits the columns have in that case."""
    found = [0] * count
    for k, column in enumerate(columns):
        # Written as a text all digits are found at once; the first case stands last there.
        digits = f"{column:b}".zfill(count)
        for case in range(count):
            if digits[count - 1 - case] == "1":
                found[case] += 1 << k
    return found


def latches_of(machine):
    """The number of latches that number the states of a machine."""
    return (len(machine.rows) - 1).bit_length()


def circuit_of(machine):
    """A circuit that does what a machine does."""
    latches = latches_of(machine)
    if latches > MOST_LATCHES:
        raise Mismatch("the machine has too many states")
    wires = digits_for(machine.inputs, MOST_WIRES)
    outs = digits_for(machine.outputs, MOST_OUTS)
    found = circuit_parts(machine, wires, latches, outs)
    if len(found[0]) > MOST_GATES:
        # With fewer states, and with other numbers for them, it may need fewer gates.
        found = circuit_parts(minimize(machine), wires, latches, outs)
    gates, nexts, told = found
    return Circuit(wires, [0] * latches, gates, nexts + [ZERO] * (latches - len(nexts)), told)


def circuit_parts(machine, wires, latches, outs):
    """The gates of a machine with so many latches, the literals of the nexts that it needs, and those of the outs."""
    heard = list(range(1, wires + 1))
    held = list(range(wires + 1, wires + latches_of(machine) + 1))
    best = None
    for order in (heard + held, held + heard, heard + held[::-1]):
        gates = Gates(1 + wires + latches)
        nexts, told = literals_of(machine, gates, wires, outs, order)
        if best is None or len(gates.row) < len(best[0]):
            best = (gates.row, nexts, told)
    return best


def digits_for(letters, most):
    """The number of binary digits of the letters below a power of 2; Mismatch if it is none or there are too many."""
    digits = (letters - 1).bit_length()
    if letters != 1 << digits or digits > most:
        raise Mismatch("the letters of the machine are not those of wires")
    return digits


def literals_of(machine, gates, wires, outs, order):
    """The literals of the nexts and those of the outs of a machine, over some gates.

    The values of the nodes are looked at one after the other, those in order from the last one on.
    """
    latches = len(order) - wires
    decisions = Decisions(gates, [2 * node for node in order])
    steps = []
    for case in range(1 << len(order)):
        digits = {node: (case >> k) & 1 for k, node in enumerate(order)}
        letter = number_of([digits[node] for node in range(1, wires + 1)])
        state = number_of([digits[node] for node in range(wires + 1, len(order) + 1)])
        # A number of no state may do what another one does, which needs fewer gates.
        if state >= len(machine.rows):
            state -= 1 << (latches - 1)
        steps.append(machine.rows[state][letter])
    nexts = []
    for k in range(latches):
        nexts.append(decisions.literal_of(number_of([(target >> k) & 1 for target, _ in steps])))
    told = []
    for k in range(outs):
        told.append(decisions.literal_of(number_of([(letter >> k) & 1 for _, letter in steps])))
    return nexts, told


def machine_of(circuit, lead, opening):
    """The minimized machine with a lead and an opening that emits what a circuit emits."""
    steps = Steps(circuit)
    places = Places()
    places.number_of(number_of(circuit.starts))
    rows = []
    while places.waits(rows):
        value = places.first_without(rows)
        rows.append([(places.number_of(later), letter) for later, letter in steps.row(value)])
    return minimize(Machine(1 << circuit.wires, 1 << len(circuit.outs), lead, opening, rows))


def first_difference_of(first, second):
    """The first shortest list of letters at whose end two circuits or machines emit different ones; None for none."""
    one = plain_machine(first)
    other = plain_machine(second)
    if one.inputs != other.inputs or one.outputs != other.outputs:
        raise Mismatch("the letters differ")
    return first_separating(one, 0, other, 0)


def plain_machine(thing):
    """The minimized machine with the lead 0 that emits what a circuit or a machine emits."""
    if isinstance(thing, Circuit):
        return machine_of(thing, 0, [])
    return minimize(Machine(thing.inputs, thing.outputs, 0, [], thing.rows))
