import unittest

from promiseplay import errors

PLAIN = ["EmptyLoop", "InvalidLetter", "InvalidTurn", "TooLarge", "Mismatch", "InvalidAutomaton", "InvalidGame",
         "InvalidPosition", "InvalidMachine", "MachineSyntaxError", "InvalidSpec", "BadJournal",
         "CertificateSyntaxError", "InvalidSight", "InvalidPrices", "InvalidCircuit", "InvalidShares", "NotSafe",
         "NotRealizable"]
WITH_ATTRIBUTES = {"FormulaSyntaxError": "position", "DuplicateSignal": "name", "UnknownSignal": "name",
                   "SpecSyntaxError": "line", "CircuitSyntaxError": "line"}


class ErrorClasses(unittest.TestCase):
    def test_base(self):
        self.assertEqual(errors.SynthError.__bases__, (ValueError,))

    def test_each_class_stands_directly_below_the_base(self):
        for name in PLAIN + list(WITH_ATTRIBUTES):
            self.assertEqual(getattr(errors, name).__bases__, (errors.SynthError,), name)
            self.assertEqual(getattr(errors, name).__module__, "promiseplay.errors")

    def test_attributes(self):
        for name, attribute in WITH_ATTRIBUTES.items():
            for value in ("a", 3):
                error = getattr(errors, name)(value)
                self.assertEqual(getattr(error, attribute), value)
                self.assertIsInstance(str(error), str)
