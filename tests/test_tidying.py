import random
import unittest

from test_circuits import random_circuit, slow_run
from promiseplay.circuits import Circuit, circuit_of, first_difference_of
from promiseplay.machines import Machine
from promiseplay.tidying import is_tidy, tidied


def slow_is_tidy(circuit):
    """Whether a circuit is tidy, by the very words of the document."""
    latch, gate = 1 + circuit.wires, 1 + circuit.wires + len(circuit.starts)
    total = gate + len(circuit.gates)
    used = set()
    for _ in range(total + 1):
        used |= {out // 2 for out in circuit.outs}
        used |= {literal // 2 for k, pair in enumerate(circuit.gates) if gate + k in used for literal in pair}
        used |= {later // 2 for k, later in enumerate(circuit.nexts) if latch + k in used}
    if not set(range(latch, total)) <= used or len(set(circuit.gates)) < len(circuit.gates):
        return False
    if not all(first < second and first // 2 != second // 2 and first // 2 != 0 and second // 2 != 0 for first, second in circuit.gates):
        return False
    return (0, 0) not in zip(circuit.starts, circuit.nexts) and (1, 1) not in zip(circuit.starts, circuit.nexts)


class Tidy(unittest.TestCase):
    def test_each_fault(self):
        good = Circuit(2, [0], [(2, 4), (6, 9)], [8], [10])
        self.assertIs(is_tidy(good), True)
        for arguments in [(2, [0], [(4, 2), (6, 9)], [8], [10]), (2, [0], [(2, 3), (6, 9)], [8], [10]), (2, [0], [(2, 2), (6, 9)], [8], [10]),
                          (2, [0], [(0, 2), (6, 9)], [8], [10]), (2, [0], [(1, 2), (6, 9)], [8], [10]), (2, [0], [(2, 4), (2, 4)], [8], [10]),
                          (2, [0], [(2, 4), (6, 9)], [0], [10]), (2, [1], [(2, 4), (6, 9)], [1], [10]), (2, [0], [(2, 4), (6, 9)], [8], [8]),
                          (2, [0], [(2, 4), (6, 9)], [8], []), (2, [0], [(2, 4), (2, 9)], [10], [10]), (2, [0], [(2, 4), (6, 9)], [6], [6])]:
            self.assertIs(is_tidy(Circuit(*arguments)), False, arguments)
            self.assertFalse(slow_is_tidy(Circuit(*arguments)))
        for arguments in [(0, [], [], [], []), (3, [], [], [], [0, 1, 2, 2]), (0, [1], [], [0], [2]), (0, [0], [], [1], [2]), (0, [0], [], [2], [2]),
                          (0, [0, 1], [], [4, 2], [2]), (2, [], [(2, 4), (2, 5), (3, 4)], [], [6, 8, 10])]:
            self.assertIs(is_tidy(Circuit(*arguments)), True, arguments)

    def test_drawn_circuits(self):
        chance = random.Random(1)
        told = {True: 0, False: 0}
        for _ in range(600):
            circuit = random_circuit(chance, 2, 2, chance.randint(0, 4), 3)
            wanted = slow_is_tidy(circuit)
            self.assertIs(is_tidy(circuit), wanted)
            told[wanted] += 1
        self.assertGreater(min(told.values()), 30)


class Tidying(unittest.TestCase):
    def check(self, circuit, chance):
        before = dict(vars(circuit))
        found = tidied(circuit)
        self.assertEqual(vars(circuit), before)
        self.assertTrue(slow_is_tidy(found))
        self.assertTrue(is_tidy(found))
        self.assertEqual((found.wires, len(found.outs)), (circuit.wires, len(circuit.outs)))
        self.assertLessEqual(len(found.gates), len(circuit.gates))
        self.assertLessEqual(len(found.starts), len(circuit.starts))
        self.assertIsNone(first_difference_of(circuit, found))
        heard = [chance.randrange(1 << circuit.wires) for _ in range(30)]
        self.assertEqual(slow_run(found, heard), slow_run(circuit, heard))
        self.assertEqual(vars(tidied(circuit)), vars(found))
        return len(found.gates), len(found.starts)

    def test_known_sizes(self):
        chance = random.Random(2)
        for arguments, wanted in [
                ((2, [], [(2, 4), (3, 5)], [], [6]), (1, 0)), ((2, [], [(2, 4), (4, 2)], [], [6, 8]), (1, 0)), ((2, [], [(2, 0), (4, 7)], [], [8]), (0, 0)),
                ((2, [], [(2, 1), (4, 6)], [], [8]), (1, 0)), ((1, [], [(2, 2)], [], [4]), (0, 0)), ((1, [], [(2, 3)], [], [5]), (0, 0)),
                ((1, [0], [], [2], [0]), (0, 0)), ((1, [0], [], [2], [4]), (0, 1)), ((1, [0], [], [0], [4]), (0, 0)), ((1, [1], [], [1], [5]), (0, 0)),
                # Two gates that are equal when two others are found to be.
                ((3, [], [(2, 4), (4, 2), (6, 8), (6, 10)], [], [12, 14]), (2, 0)),
                # A latch that never changes because another one does not, and a gate that is needless then.
                ((1, [0, 0], [(4, 2)], [0, 8], [6]), (0, 0)), ((1, [0, 0, 1], [(4, 8), (2, 10)], [0, 10, 1], [6, 12]), (0, 0)),
                # Latches that are used by each other alone.
                ((1, [0, 1], [(4, 6)], [8, 4], [2]), (0, 0)), ((1, [0, 1], [(4, 6)], [8, 3], [4]), (1, 2)), ((0, [], [], [], []), (0, 0))]:
            self.assertEqual(self.check(Circuit(*arguments), chance), wanted, arguments)

    def test_drawn_circuits(self):
        chance = random.Random(3)
        for _ in range(300):
            self.check(random_circuit(chance, 3, 4, chance.choice([0, 3, 8, 20, 40]), 3), chance)

    def test_circuits_of_machines(self):
        chance = random.Random(4)
        for n in (1, 3, 4, 7):
            rows = [[(chance.randrange(n), chance.randrange(4)) for _ in range(4)] for _ in range(n)]
            self.check(circuit_of(Machine(4, 4, 0, [], rows)), chance)


if __name__ == "__main__":
    unittest.main()
