import random
import unittest

from promiseplay.certificates import audit
from promiseplay.errors import BadJournal, MachineSyntaxError
from promiseplay.journals import Journal, recover
from promiseplay.machines import Machine
from promiseplay.machinetext import format_machine, parse_machine
from promiseplay.numerals import is_number, number_in, numeral, small_number
from promiseplay.spectext import parse_spec


def value_of(digits):
    """The number that some digits write, digit by digit."""
    number = 0
    for digit in digits:
        number = number * 10 + "0123456789".index(digit)
    return number


class Numerals(unittest.TestCase):
    def test_drawn_numbers_of_all_lengths(self):
        chance = random.Random(1)
        for size in list(range(1, 140)) + [191, 192, 193, 255, 256, 257, 512, 1000, 4299, 4300, 4301, 6000]:
            digits = chance.choice("123456789") + "".join(chance.choice("0123456789") for _ in range(size - 1))
            self.assertEqual(numeral(value_of(digits)), digits)
            self.assertEqual(number_in(digits), value_of(digits))
            self.assertTrue(is_number(digits))
            for digits in ("1" + "0" * (size - 1), "9" * size):
                self.assertEqual(numeral(value_of(digits)), digits)
                self.assertEqual(number_in(digits), value_of(digits))
        self.assertEqual((numeral(0), number_in("0"), number_in("007")), ("0", 0, 7))

    def test_small_numbers(self):
        for text, most, wanted in [("0", 0, 0), ("1", 0, None), ("12", 12, 12), ("13", 12, None), ("01", 9, None), ("", 9, None), ("-1", 9, None),
                                   ("+1", 9, None), (" 1", 9, None), ("1_0", 99, None), ("9" * 5000, 99, None)]:
            self.assertEqual(small_number(text, most), wanted)


class LongTexts(unittest.TestCase):
    def test_machines_whose_numbers_have_very_many_digits(self):
        for size in (4299, 4300, 4301, 9000):
            nines = "9" * size
            letter = 10 ** size - 1
            machine = Machine(1, letter + 1, -2, [letter, 0], [[(1, letter)], [(0, 7)]])
            text = f"machine 1 1{'0' * size} -2\nopening {nines} 0\n1/{nines}\n0/7\n"
            self.assertEqual(format_machine(machine), text)
            self.assertEqual(vars(parse_machine(text)), vars(machine))
            with self.assertRaises(MachineSyntaxError):
                parse_machine(text.replace(" 1" + "0" * size, " " + nines))
            with self.assertRaises(MachineSyntaxError):
                parse_machine(text.replace("0/7", "0/0" + nines))

    def test_journals(self):
        machine = Machine(2, 2, 0, [], [[(0, 0), (0, 1)]])
        nines = "9" * 5000
        self.assertEqual(Journal(machine, spacing=10 ** 5000 - 1).text, f"journal {nines}\n")
        self.assertEqual(recover(machine, f"journal {nines}\nheard 1\n").spacing, 10 ** 5000 - 1)
        for text in [f"journal 2\nheard {nines}\n", f"journal 2\nheard 1\nheard 1\nstate {nines} 0\n", f"journal 0{nines}\n"]:
            with self.assertRaises(BadJournal):
                recover(machine, text)

    def test_certificates(self):
        spec = parse_spec("inputs\noutputs\nlead 0\n")
        nines = "9" * 5000
        with self.assertRaises(ValueError) as caught:
            audit(spec, f"realizable\nmachine 1 {nines} 0\nopening\n0/0\n")
        self.assertEqual(type(caught.exception).__name__, "Mismatch")


if __name__ == "__main__":
    unittest.main()
