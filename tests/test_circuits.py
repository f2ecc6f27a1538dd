import itertools
import random
import unittest

from oracles import random_machine, slow_emitted
from promiseplay.circuits import Circuit, circuit_of, first_difference_of, machine_of
from promiseplay.errors import InvalidCircuit, InvalidLetter, InvalidMachine, Mismatch
from promiseplay.machines import Machine
from promiseplay.minimization import minimize

LEADS = [-3, -2, -1, 0, 1, 2]


def random_circuit(chance, wires=3, latches=3, gates=8, outs=3):
    n, l, g = chance.randint(0, wires), chance.randint(0, latches), chance.randint(0, gates)
    pairs = [(chance.randrange(2 * (1 + n + l + k)), chance.randrange(2 * (1 + n + l + k))) for k in range(g)]
    most = 2 * (1 + n + l + g)
    return Circuit(n, [chance.randint(0, 1) for _ in range(l)], pairs, [chance.randrange(most) for _ in range(l)],
                   [chance.randrange(most) for _ in range(chance.randint(0, outs))])


def slow_run(circuit, heard):
    """What a circuit emits, by the very words of the document."""
    latches = list(circuit.starts)
    emitted = []
    for letter in heard:
        nodes = [0]
        for k in range(circuit.wires):
            nodes.append(letter // 2 ** k % 2)
        nodes.extend(latches)

        def value(literal):
            return 1 - nodes[literal // 2] if literal % 2 else nodes[literal // 2]
        for first, second in circuit.gates:
            nodes.append(1 if value(first) == 1 and value(second) == 1 else 0)
        emitted.append(sum(2 ** k * value(out) for k, out in enumerate(circuit.outs)))
        latches = [value(later) for later in circuit.nexts]
    return emitted


def run(thing, heard):
    return slow_run(thing, heard) if type(thing) is Circuit else slow_emitted(thing, heard)


def letters_of(thing):
    if type(thing) is Circuit:
        return 1 << thing.wires, 1 << len(thing.outs)
    return thing.inputs, thing.outputs


class Circuits(unittest.TestCase):
    def test_the_example(self):
        flip = Circuit(1, [0], [(2, 5), (3, 4)], [7], [8])
        self.assertEqual(flip([1, 0, 1, 1]), [0, 0, 0, 0])

    def test_attributes(self):
        starts, gates, nexts, outs = [1, 0], [(2, 4), (8, 9)], [3, 10], [0, 11]
        circuit = Circuit(1, starts, gates, nexts, outs)
        wanted = (1, (1, 0), ((2, 4), (8, 9)), (3, 10), (0, 11))
        told = circuit([0, 1, 1])
        for changed in (starts, nexts, outs):
            changed[0] = 1 - changed[0] % 2
        gates.append((0, 0))
        self.assertEqual((circuit.wires, circuit.starts, circuit.gates, circuit.nexts, circuit.outs), wanted)
        self.assertEqual(circuit([0, 1, 1]), told)

    def test_bounds(self):
        Circuit(6, [0] * 12, [(0, 0)] * 4000, [0] * 12, [0] * 6)
        Circuit(0, [], [], [], [])
        Circuit(1, [0], [(5, 5), (7, 0)], [9], [9])
        for arguments in [(-1, [], [], [], []), (7, [], [], [], []), (0, [0] * 13, [], [0] * 13, []), (0, [], [(0, 0)] * 4001, [], []),
                          (0, [], [], [], [0] * 7), (0, [2], [], [0], []), (0, [-1], [], [0], []), (0, [0], [], [], []), (0, [], [], [0], []),
                          (1, [0], [(6, 0)], [0], []), (1, [0], [(0, 6)], [0], []), (1, [0], [(5, 5), (8, 0)], [0], []), (1, [0], [(-1, 0)], [0], []),
                          (1, [0], [(0, -1)], [0], []), (1, [0], [(0, 0)], [8], []), (1, [0], [(0, 0)], [-1], []), (1, [0], [(0, 0)], [0], [8]),
                          (1, [0], [(0, 0)], [0], [-1]), (0, [], [(2, 0)], [], []), (0, [], [], [], [2])]:
            with self.assertRaises(InvalidCircuit):
                Circuit(*arguments)

    def test_against_a_slow_look(self):
        chance = random.Random(1)
        for _ in range(300):
            circuit = random_circuit(chance)
            heard = [chance.randrange(1 << circuit.wires) for _ in range(12)]
            given = list(heard)
            self.assertEqual(circuit(heard), slow_run(circuit, heard))
            self.assertEqual(heard, given)
            self.assertEqual(circuit(heard[:5]), circuit(heard)[:5])
            self.assertEqual(circuit([]), [])

    def test_letters(self):
        for wires in range(7):
            circuit = Circuit(wires, [], [], [], [])
            self.assertEqual(circuit([0, (1 << wires) - 1]), [0, 0])
            for letter in (-1, 1 << wires):
                with self.assertRaises(InvalidLetter):
                    circuit([0, letter])


class OfMachines(unittest.TestCase):
    def test_circuits_do_what_machines_do(self):
        chance = random.Random(2)
        for k in range(150):
            inputs, outputs = 1 << chance.randint(0, 3), 1 << chance.randint(0, 3)
            machine = random_machine(chance, inputs, outputs, LEADS[k % 6], chance.choice([1, 2, 3, 4, 5, 8, 9, 20]))
            circuit = circuit_of(machine)
            self.assertIs(type(circuit), Circuit)
            latches = 0
            while 1 << latches < len(machine.rows):
                latches += 1
            self.assertEqual((circuit.wires, len(circuit.starts), len(circuit.outs)), (inputs.bit_length() - 1, latches, outputs.bit_length() - 1))
            for _ in range(3):
                heard = [chance.randrange(inputs) for _ in range(25)]
                self.assertEqual(circuit(heard), slow_emitted(machine, heard))
            self.assertIsNone(first_difference_of(circuit, machine))
            back = machine_of(circuit, machine.lead, list(machine.opening))
            small = minimize(machine)
            self.assertEqual(vars(back), vars(small))

    def test_letters_and_latches(self):
        for inputs, outputs in [(3, 2), (2, 3), (128, 2), (2, 128), (65, 1), (1, 63), (6, 6)]:
            with self.assertRaises(Mismatch):
                circuit_of(Machine(inputs, outputs, 0, [], [[(0, 0)] * inputs]))
        self.assertEqual(len(circuit_of(Machine(64, 64, 0, [], [[(0, 63 - k) for k in range(64)]])).outs), 6)
        self.assertEqual(vars(circuit_of(Machine(1, 1, -1, [0], [[(0, 0)]]))), vars(Circuit(0, [], [], [], [])))
        ring = [[((k + 1) % 4096, 1 if k == 4095 else 0)] for k in range(4096)]
        circuit = circuit_of(Machine(1, 2, 0, [], ring))
        self.assertEqual(len(circuit.starts), 12)
        self.assertEqual(circuit([0] * 4097), [0] * 4095 + [1, 0])
        with self.assertRaises(Mismatch):
            circuit_of(Machine(1, 2, 0, [], ring + [[(0, 0)]]))
        self.assertEqual(len(circuit_of(Machine(1, 2, 0, [], ring[:2047] + [[(0, 0)]])).starts), 11)

    def test_many_states(self):
        chance = random.Random(6)
        drawn = [[(chance.randrange(4096), 0) for _ in range(4)] for _ in range(4096)]
        circuit = circuit_of(Machine(4, 64, 0, [], drawn))
        self.assertEqual((len(circuit.starts), len(circuit.outs)), (12, 6))
        self.assertEqual(circuit([chance.randrange(4) for _ in range(20)]), [0] * 20)
        # A ring whose states have numbers without order, and some states that are never reached.
        for size in [2049, 4096]:
            order = list(range(1, size))
            chance.shuffle(order)
            order = [0] + order
            rows = [None] * size
            for k, state in enumerate(order[:700]):
                rows[state] = [(order[(k + 1) % 700], 1 if k == 699 else 0), (0, 0)]
            for state in order[700:]:
                rows[state] = [(chance.randrange(size), chance.randrange(2)) for _ in range(2)]
            machine = Machine(2, 2, 0, [], rows)
            circuit = circuit_of(machine)
            self.assertEqual((circuit.wires, len(circuit.starts), len(circuit.outs)), (1, 12, 1))
            self.assertEqual(circuit([0] * 700), [0] * 699 + [1])
            self.assertIsNone(first_difference_of(circuit, machine))


class Machines(unittest.TestCase):
    def test_drawn_circuits(self):
        chance = random.Random(3)
        for k in range(150):
            circuit = random_circuit(chance)
            inputs, outputs = letters_of(circuit)
            lead = LEADS[k % 6]
            opening = [chance.randrange(outputs) for _ in range(max(0, -lead))]
            machine = machine_of(circuit, lead, opening)
            self.assertEqual((machine.inputs, machine.outputs, machine.lead, machine.opening), (inputs, outputs, lead, tuple(opening)))
            self.assertEqual(minimize(machine).rows, machine.rows)
            for _ in range(3):
                heard = [chance.randrange(inputs) for _ in range(20)]
                self.assertEqual(slow_emitted(machine, heard), slow_run(circuit, heard))

    def test_what_does_not_fit(self):
        circuit = Circuit(1, [], [], [], [2])
        machine_of(circuit, -2, [0, 1])
        machine_of(Circuit(0, [], [], [], []), -1, [0])
        for lead, opening in [(3, []), (-4, [0] * 4), (0, [0]), (-2, [0]), (-1, []), (1, [0]), (-2, [0, 2]), (-1, [-1])]:
            with self.assertRaises(InvalidMachine):
                machine_of(circuit, lead, opening)
        with self.assertRaises(InvalidMachine):
            machine_of(Circuit(0, [], [], [], []), -1, [1])

    def test_large_circuits(self):
        chance = random.Random(4)
        gates = [(chance.randrange(38 + 2 * k), chance.randrange(38 + 2 * k)) for k in range(4000)]
        circuit = Circuit(6, [1] * 12, gates, [chance.randrange(8038) for _ in range(12)], [chance.randrange(8038) for _ in range(6)])
        machine = machine_of(circuit, 0, [])
        heard = [chance.randrange(64) for _ in range(30)]
        self.assertEqual(slow_emitted(machine, heard), slow_run(circuit, heard))


class Differences(unittest.TestCase):
    def slow(self, first, second, longest):
        for size in range(1, longest + 1):
            for heard in itertools.product(range(letters_of(first)[0]), repeat=size):
                if run(first, heard) != run(second, heard):
                    return list(heard)
        return None

    def test_against_a_slow_look(self):
        chance = random.Random(5)
        lengths = {}
        for _ in range(400):
            first = random_circuit(chance, 1, 3, 5, 1)
            inputs, outputs = letters_of(first)
            if chance.random() < 0.3:
                first = random_machine(chance, inputs, outputs, 0, 4)
            second = random_machine(chance, inputs, outputs, chance.randint(-3, 2), 3)
            if chance.random() < 0.3:
                # Nearly the same thing.
                plain = machine_of(first, 0, []) if type(first) is Circuit else first
                rows = [list(row) for row in plain.rows]
                rows[-1][-1] = (chance.randrange(len(rows)), chance.randrange(outputs))
                second = Machine(inputs, outputs, 0, [], rows)
            found = first_difference_of(first, second)
            self.assertEqual(found, first_difference_of(second, first))
            if found is None:
                self.assertIsNone(self.slow(first, second, 6))
            else:
                self.assertEqual(found, self.slow(first, second, len(found)))
            size = None if found is None else len(found)
            lengths[size] = lengths.get(size, 0) + 1
        self.assertTrue({None, 1, 2, 3} <= set(lengths), lengths)

    def test_far_away(self):
        ring = [[((k + 1) % 200, 1 if k == 199 else 0), (0, 0)] for k in range(200)]
        machine = Machine(2, 2, 0, [], ring)
        self.assertEqual(first_difference_of(machine, Circuit(1, [], [], [], [0])), [0] * 200)
        self.assertEqual(first_difference_of(circuit_of(machine), Machine(2, 2, 0, [], ring[:199] + [[(0, 1), (0, 1)]])), [0] * 199 + [1])
        self.assertIsNone(first_difference_of(circuit_of(machine), machine))

    def test_leads_and_openings_do_not_count(self):
        rows = [[(0, 0), (0, 1)]]
        self.assertIsNone(first_difference_of(Machine(2, 2, -2, [0, 1], rows), Machine(2, 2, 2, [], rows)))
        self.assertEqual(first_difference_of(Machine(3, 3, 0, [], [[(0, 0)] * 3]), Machine(3, 3, 0, [], [[(0, 0), (0, 0), (0, 2)]])), [2])

    def test_mismatch(self):
        circuit = Circuit(1, [], [], [], [2])
        for other in [Circuit(2, [], [], [], [2]), Circuit(1, [], [], [], [2, 2]), Circuit(1, [], [], [], []), Machine(3, 2, 0, [], [[(0, 0)] * 3]),
                      Machine(2, 3, 0, [], [[(0, 0)] * 2])]:
            with self.assertRaises(Mismatch):
                first_difference_of(circuit, other)
            with self.assertRaises(Mismatch):
                first_difference_of(other, circuit)
        with self.assertRaises(Mismatch):
            first_difference_of(Machine(3, 2, 0, [], [[(0, 0)] * 3]), Machine(2, 2, 0, [], [[(0, 0)] * 2]))


if __name__ == "__main__":
    unittest.main()
