import random
import unittest

from oracles import random_machine, random_spec, slow_normal, slow_satisfies
from promiseplay.certificates import audit, write_certificate
from promiseplay.checking import breaking_word
from promiseplay.errors import CertificateSyntaxError, Mismatch
from promiseplay.machines import Machine, trace
from promiseplay.machinetext import format_machine, parse_machine
from promiseplay.specs import dual
from promiseplay.spectext import parse_spec
from promiseplay.synthesis import synthesize

SPEC = parse_spec("inputs r\noutputs g\nlead 0\nguarantee G(g <-> r)\n")
ECHO = "machine 2 2 0\nopening\n0/0 0/1\n"


class Certificates(unittest.TestCase):
    def test_known_texts(self):
        self.assertEqual(write_certificate(SPEC), "realizable\n" + ECHO)
        spec = parse_spec("inputs r\noutputs g\nlead 0\nguarantee false\n")
        text = write_certificate(spec)
        self.assertEqual(text.split("\n")[:2], ["unrealizable", "machine 2 2 -1"])
        self.assertIsNone(audit(spec, text))

    def test_what_is_written_is_true_and_the_opposite_is_not(self):
        chance = random.Random(1)
        for _ in range(150):
            spec = random_spec(chance)
            verdict = synthesize(spec)
            text = write_certificate(spec)
            self.assertEqual(text, ("realizable\n" if verdict.realizable else "unrealizable\n") + format_machine(verdict.machine))
            self.assertIsNone(audit(spec, text))
            other = text[2:] if text.startswith("un") else "un" + text
            try:
                self.assertIsNotNone(audit(spec, other))
            except Mismatch:
                pass

    def test_claims_of_drawn_machines(self):
        chance = random.Random(2)
        told = {}
        for k in range(160):
            spec = random_spec(chance)
            side = dual(spec) if k % 2 else spec
            machine = random_machine(chance, 1 << len(side.inputs), 1 << len(side.outputs), side.lead)
            found = audit(spec, ("unrealizable\n" if k % 2 else "realizable\n") + format_machine(machine))
            self.assertEqual(found, breaking_word(side, machine))
            told[(k % 2, found is None)] = True
            if found is not None:
                self.assertEqual(slow_normal(found), found)
                self.assertFalse(slow_satisfies(side, trace(machine, found)))
        self.assertEqual(len(told), 4)

    def test_wrong_texts(self):
        for text in ["", "\n", "realizable", "realizable\n", "unrealizable\n", "unrealizable", ECHO, "Realizable\n" + ECHO,
                     "realizable \n" + ECHO, " realizable\n" + ECHO, "realizable\n\n" + ECHO, "realizable\n" + ECHO + "\n",
                     "realizable\n" + ECHO[:-1], "realizable\n " + ECHO, "realizable\nrealizable\n" + ECHO,
                     "notrealizable\n" + ECHO, "un realizable\n" + ECHO, "unrealizable\n" + ECHO.replace("0/1", "1/1"),
                     "realizable\n" + ECHO.replace("0/1", "0/2"), "realizable" + ECHO]:
            with self.assertRaises(CertificateSyntaxError, msg=repr(text)):
                audit(SPEC, text)

    def test_what_does_not_fit(self):
        ahead = ECHO.replace("machine 2 2 0\nopening", "machine 2 2 -1\nopening 0")
        wide = "machine 2 4 0\nopening\n0/0 0/1\n"
        for text in ["realizable\n" + ahead, "unrealizable\n" + ECHO, "realizable\n" + wide, "unrealizable\n" + wide]:
            with self.assertRaises(Mismatch, msg=text):
                audit(SPEC, text)
        # A text that is wrong and would not fit either is wrong first of all.
        with self.assertRaises(CertificateSyntaxError):
            audit(SPEC, "realizable\n" + ahead + "\n")
        with self.assertRaises(CertificateSyntaxError):
            audit(SPEC, "realizable\n" + wide[:-1])
        self.assertIsNotNone(audit(SPEC, "unrealizable\n" + ahead))

    def test_sides_with_different_signals(self):
        spec = parse_spec("inputs r\noutputs g h\nlead 1\nguarantee G(g <-> X X r)\n")
        text = write_certificate(spec)
        self.assertTrue(text.startswith("unrealizable\nmachine 4 2 -2\nopening "))
        self.assertIsNone(audit(spec, text))
        with self.assertRaises(Mismatch):
            audit(spec, text[2:])

    def test_long_texts(self):
        rows = [[((k + 1) % 300, a) for a in range(2)] for k in range(300)]
        text = "realizable\n" + format_machine(Machine(2, 2, 0, [], rows))
        self.assertLess(3000, len(text))
        self.assertLess(len(text), 4001)
        self.assertEqual(parse_machine(text[11:]).rows[299][1], (0, 1))
        wrong = text.replace("299/1\n", "299/0\n")
        self.assertEqual(audit(SPEC, text), None)
        self.assertFalse(slow_satisfies(SPEC, trace(parse_machine(wrong[11:]), audit(SPEC, wrong))))
