import random
import unittest

from oracles import random_machine
from promiseplay.errors import InvalidMachine, MachineSyntaxError
from promiseplay.machines import Machine
from promiseplay.machinetext import format_machine, parse_machine


def parts(machine):
    return machine.inputs, machine.outputs, machine.lead, machine.opening, machine.rows


def plainly_read(text):
    """The machine with a text, read carelessly; None if there is none. The caller compares the text again."""
    try:
        first, second, *rest = text.split("\n")
        _, p, q, lead = first.split()
        opening = [int(word) for word in second.split()[1:]]
        rows = [[tuple(int(part) for part in pair.split("/")) for pair in line.split()] for line in rest[:-1]]
        return Machine(int(p), int(q), int(lead), opening, rows)
    except (ValueError, IndexError, TypeError):
        return None


ECHO = "machine 2 2 -1\nopening 0\n0/0 0/1\n"


class Formatting(unittest.TestCase):
    def test_examples(self):
        self.assertEqual(format_machine(Machine(1, 2, 0, [], [[(1, 0)], [(0, 1)]])), "machine 1 2 0\nopening\n1/0\n0/1\n")
        self.assertEqual(format_machine(Machine(2, 2, -1, [0], [[(0, 0), (0, 1)]])), ECHO)
        self.assertEqual(parts(parse_machine(ECHO)), (2, 2, -1, (0,), (((0, 0), (0, 1)),)))

    def test_numbers_with_two_digits(self):
        rows = [[((k * 5) % 12, (k * 7) % 13)] for k in range(12)]
        machine = Machine(1, 13, -3, [12, 0, 10], rows)
        text = format_machine(machine)
        self.assertEqual(text.split("\n")[:4], ["machine 1 13 -3", "opening 12 0 10", "0/0", "5/7"])
        self.assertEqual(parts(parse_machine(text)), parts(machine))

    def test_there_and_back(self):
        chance = random.Random(1)
        for k in range(200):
            machine = random_machine(chance, chance.randint(1, 11), chance.randint(1, 12), k % 6 - 3, 12)
            text = format_machine(machine)
            self.assertEqual(parts(parse_machine(text)), parts(machine))
            self.assertEqual(format_machine(parse_machine(text)), text)


class Reading(unittest.TestCase):
    def test_wrong_texts(self):
        for text in ["", "\n", "\n\n\n", "machine 2 2 -1\nopening 0\n0/0 0/1", ECHO[:-1] + " \n", ECHO + "\n", " " + ECHO,
                     ECHO + "0/0 0/1", ECHO.replace("machine ", "machine  "), ECHO.replace("machine", "Machine"),
                     ECHO.replace("machine 2", "machine 02"), ECHO.replace("-1", "-01"), ECHO.replace("-1", "+1"),
                     ECHO.replace(" -1", ""), ECHO.replace("-1", "-1 0"), ECHO.replace("-1", "-1 "),
                     ECHO.replace("opening 0", "opening"), ECHO.replace("opening 0", "opening 0 "),
                     ECHO.replace("opening 0", "opening 00"), ECHO.replace("opening 0", "opening  0"),
                     ECHO.replace("opening 0", "opening 2"), ECHO.replace("opening 0", "opening -0"),
                     ECHO.replace("opening 0", "opening x"), ECHO.replace("opening 0\n", ""), ECHO.replace("opening", "open"),
                     ECHO.replace("0/0 0/1", "0/0  0/1"), ECHO.replace("0/0 0/1", "0/0 0/1 0/1"), ECHO.replace(" 0/1", ""),
                     ECHO.replace("0/1", "1/1"), ECHO.replace("0/1", "0/2"), ECHO.replace("0/1", "0/-1"),
                     ECHO.replace("0/1", "0/01"), ECHO.replace("0/1", "0 /1"), ECHO.replace("0/1", "0/1/0"),
                     ECHO.replace("0/1", "01"), ECHO.replace("0/1", "/1"), ECHO.replace("0/1", "0/"),
                     ECHO.replace("0/0 0/1\n", ""), ECHO.replace("0/0 0/1\n", "\n"), ECHO.replace("\n0/0", "\n\n0/0"),
                     ECHO.replace("0\n0/0", "0 0/0"), "machine 2 2 -0\nopening\n0/0 0/1\n", "machine 2 2 3\nopening\n0/0 0/1\n",
                     "machine 2 2 -4\nopening 0 0 0 0\n0/0 0/1\n", "machine 0 2 0\nopening\n\n", "machine 1 0 0\nopening\n0/0\n",
                     "machine 0 0 0\nopening\n", "machine 1 1 0\nopening\n", "machine -1 1 0\nopening\n0/0\n",
                     "machine 1 1 0 \nopening\n0/0\n", "machine 1 1 1_0\nopening\n0/0\n", "machine 1_0 1 0\nopening\n0/0\n"]:
            with self.assertRaises(MachineSyntaxError, msg=repr(text)):
                parse_machine(text)

    def test_texts_spoilt_at_one_place(self):
        chance = random.Random(2)
        signs = "0123456789/ -\nmachineopg"
        read = 0
        for k in range(3000):
            machine = random_machine(chance, chance.randint(1, 3), chance.randint(1, 12), k % 6 - 3, 3)
            text = format_machine(machine)
            at = chance.randrange(len(text))
            spoilt = chance.choice([text[:at] + chance.choice(signs) + text[at:], text[:at] + text[at + 1:],
                                    text[:at] + chance.choice(signs) + text[at + 1:]])
            wanted = plainly_read(spoilt)
            if wanted is not None and format_machine(wanted) == spoilt:
                read += 1
                self.assertEqual(parts(parse_machine(spoilt)), parts(wanted))
            else:
                with self.assertRaises(MachineSyntaxError, msg=repr(spoilt)):
                    parse_machine(spoilt)
        self.assertGreater(read, 50)

    def test_texts_of_4000_characters(self):
        rows = "".join(f"{k}/0\n" for k in range(1, 630)) + "0/0\n"
        text = "machine 1 1 0\nopening\n" + rows
        self.assertLessEqual(len(text), 4000)
        self.assertEqual(len(parse_machine(text).rows), 630)
        digits = "1" + "0" * (4000 - len("machine 1  0\nopening\n0/0\n") - 1)
        text = "machine 1 " + digits + " 0\nopening\n0/0\n"
        self.assertEqual(len(text), 4000)
        self.assertEqual(parse_machine(text).outputs, 10 ** (len(digits) - 1))

    def test_the_error(self):
        with self.assertRaises(MachineSyntaxError) as caught:
            parse_machine("machine 1 1 0\nopening\n1/0\n")
        self.assertNotIsInstance(caught.exception, InvalidMachine)
