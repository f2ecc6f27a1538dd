import random
import unittest

from test_circuits import random_circuit
from promiseplay.circuits import Circuit
from promiseplay.circuittext import format_circuit, parse_circuit
from promiseplay.errors import CircuitSyntaxError

GOOD = "circuit 1 2 2 1\nstarts 0 1\ngate 2 5\ngate 6 9\nnexts 3 10\nouts 11\n"


class Texts(unittest.TestCase):
    def test_known_texts(self):
        self.assertEqual(format_circuit(Circuit(1, [0, 1], [(2, 5), (6, 9)], [3, 10], [11])), GOOD)
        self.assertEqual(format_circuit(Circuit(0, [], [], [], [])), "circuit 0 0 0 0\nstarts\nnexts\nouts\n")
        self.assertEqual(vars(parse_circuit(GOOD)), vars(Circuit(1, [0, 1], [(2, 5), (6, 9)], [3, 10], [11])))
        self.assertEqual(vars(parse_circuit("circuit 6 0 0 0\nstarts\nnexts\nouts\n")), vars(Circuit(6, [], [], [], [])))

    def test_there_and_back(self):
        chance = random.Random(1)
        for _ in range(200):
            circuit = random_circuit(chance, 6, 12, 30, 6)
            again = parse_circuit(format_circuit(circuit))
            self.assertIs(type(again), Circuit)
            self.assertEqual(vars(again), vars(circuit))

    def wrong(self, text, line):
        with self.assertRaises(CircuitSyntaxError) as caught:
            parse_circuit(text)
        self.assertEqual(caught.exception.line, line, text)

    def test_each_wrong_line(self):
        for old, new, line in [
                ("circuit 1", "circuits 1", 0), ("circuit 1", "Circuit 1", 0), ("circuit 1 2 2 1", "circuit 1 2 2", 0), ("circuit 1 2 2 1", "circuit 1 2 2 1 0", 0),
                ("circuit 1", "circuit  1", 0), ("circuit 1", " circuit 1", 0), ("2 2 1\n", "2 2 1 \n", 0), ("circuit 1", "circuit 01", 0), ("circuit 1", "circuit 7", 0),
                ("circuit 1", "circuit +1", 0), ("circuit 1", "circuit -1", 0), ("circuit 1", "circuit x", 0), ("circuit 1 2", "circuit 1 13", 0),
                ("circuit 1 2 2", "circuit 1 2 4001", 0), ("2 2 1\n", "2 2 7\n", 0), ("circuit 1", "circuit " + "9" * 5000, 0), ("circuit 1 2 2 1", "", 0),
                ("starts 0 1", "starts 0 2", 1), ("starts 0 1", "starts 0", 1), ("starts 0 1", "starts 0 1 0", 1), ("starts 0 1", "starts 0 01", 1), ("starts 0 1", "start 0 1", 1),
                ("starts 0 1", "starts  0 1", 1), ("starts 0 1", "starts 0 -1", 1), ("starts", "nexts", 1), ("gate 2 5", "gate 2 8", 2), ("gate 2 5", "gate 8 2", 2),
                ("gate 2 5", "gate 2", 2), ("gate 2 5", "gate 2 5 5", 2), ("gate 2 5", "gate 2 05", 2), ("gate 2 5", "gates 2 5", 2), ("gate 2 5", "gate 2  5", 2),
                ("gate 2 5\n", "gate 2 5 \n", 2), ("gate 6 9", "gate 6 10", 3), ("gate 6 9", "gate 10 6", 3), ("gate 6 9", "nexts 3 10", 3), ("gate 6 9", "gate 6 -9", 3),
                ("nexts 3 10", "nexts 3 12", 4), ("nexts 3 10", "nexts 3", 4), ("nexts 3 10", "nexts 3 10 1", 4), ("nexts 3 10", "gate 3 10", 4), ("nexts 3 10", "next 3 10", 4),
                ("outs 11", "outs 12", 5), ("outs 11", "outs", 5), ("outs 11", "outs 11 0", 5), ("outs 11", "outs 011", 5), ("outs 11", "out 11", 5), ("outs 11", "outs " + "1" * 5000, 5)]:
            self.assertEqual(GOOD.count(old) > 0, True)
            self.wrong(GOOD.replace(old, new, 1), line)

    def test_the_first_wrong_line_decides(self):
        self.wrong(GOOD.replace("starts 0 1", "starts 0 2").replace("outs 11", "outs 99"), 1)
        self.wrong(GOOD.replace("gate 6 9", "gate 6 99") + "more", 3)

    def test_what_is_missing_or_too_much(self):
        lines = GOOD.split("\n")[:-1]
        for count in range(len(lines)):
            kept = "".join(line + "\n" for line in lines[:count])
            self.wrong(kept, count)
            # A line without its line feed stands behind the last one.
            self.wrong(kept + lines[count], count)
            self.wrong(kept + lines[count][:3], count)
        for more in ("\n", "outs 11\n", "x", " ", "gate 2 5\n"):
            self.wrong(GOOD + more, 6)
        self.wrong("", 0)
        self.wrong("\n", 0)
        self.wrong("circuit 0 0 0 0\nstarts\nnexts\nouts\n\n", 4)

    def test_the_greatest_counts(self):
        text = "circuit 6 12 300 6\nstarts" + " 1" * 12 + "\n" + "gate 0 37\n" * 300 + "nexts" + " 637" * 12 + "\nouts" + " 637" * 6 + "\n"
        self.assertEqual(format_circuit(parse_circuit(text)), text)
        self.wrong(text.replace("637", "638", 1), 302)
        self.wrong(text.replace("0 37", "0 38", 1), 2)


if __name__ == "__main__":
    unittest.main()
