import random
import unittest

from oracles import random_spec
from promiseplay.errors import DuplicateSignal, FormulaSyntaxError, SpecSyntaxError, TooLarge, UnknownSignal
from promiseplay.specs import Spec
from promiseplay.spectext import format_spec, parse_spec

HEAD = "inputs r\noutputs g\nlead 0\n"


def parts(spec):
    return spec.inputs, spec.outputs, spec.lead, spec.assumptions, spec.guarantees, spec.negated


class Formatting(unittest.TestCase):
    def test_whole_text(self):
        r, g = ("signal", "r"), ("signal", "g")
        spec = Spec(["r", "s"], ["g"], -3, [("always", ("eventually", r)), ("exists", ("h", "k"), ("and", r, ("signal", "k")))],
                    [("always", ("implies", r, g))], negated=True)
        self.assertEqual(format_spec(spec), "inputs r s\noutputs g\nlead -3\nassume GFr\nassume exists h, k: (r & k)\n"
                                            "guarantee G(r -> g)\nnegated\n")
        self.assertEqual(format_spec(Spec([], [], 2, [], [])), "inputs\noutputs\nlead 2\n")
        self.assertEqual(parts(parse_spec(format_spec(spec))), parts(spec))

    def test_there_and_back(self):
        chance = random.Random(1)
        for k in range(150):
            spec = random_spec(chance, lead=k % 6 - 3)
            self.assertEqual(parts(parse_spec(format_spec(spec))), parts(spec))


class Reading(unittest.TestCase):
    def fails(self, text, line):
        with self.assertRaises(SpecSyntaxError, msg=repr(text)) as caught:
            parse_spec(text)
        self.assertEqual(caught.exception.line, line, repr(text))

    def test_the_examples(self):
        spec = parse_spec("inputs r\noutputs g\nlead 0\nguarantee G(r -> F g)\n")
        self.assertEqual((spec.signals, spec.lead, spec.guarantees),
                         (("r", "g"), 0, (("always", ("implies", ("signal", "r"), ("eventually", ("signal", "g")))),)))
        self.fails("inputs r\noutputs r\nlead 0\n", 1)

    def test_small_texts(self):
        self.assertEqual(parts(parse_spec("inputs\noutputs\nlead -1\n")), ((), (), -1, (), (), False))
        self.assertEqual(parts(parse_spec("inputs\noutputs\nlead -1\nnegated\n")), ((), (), -1, (), (), True))
        self.assertEqual(parts(parse_spec("inputs a b c\noutputs d e f\nlead 2\nassume  a \nguarantee   f\n")),
                         (("a", "b", "c"), ("d", "e", "f"), 2, (("signal", "a"),), (("signal", "f"),), False))

    def test_lines_with_names(self):
        for text, line in [("input r\noutputs g\nlead 0\n", 0), ("inputsr\noutputs g\nlead 0\n", 0),
                           ("inputs \noutputs g\nlead 0\n", 0), ("inputs  r\noutputs g\nlead 0\n", 0),
                           (" inputs r\noutputs g\nlead 0\n", 0), ("inputs r \noutputs g\nlead 0\n", 0),
                           ("inputs R\noutputs g\nlead 0\n", 0), ("inputs 1r\noutputs g\nlead 0\n", 0),
                           ("inputs r,s\noutputs g\nlead 0\n", 0), ("inputs true\noutputs g\nlead 0\n", 0),
                           ("inputs exists\noutputs g\nlead 0\n", 0), ("inputs r r\noutputs g\nlead 0\n", 0),
                           ("inputs a b c d\noutputs g\nlead 0\n", 0), ("Inputs r\noutputs g\nlead 0\n", 0),
                           ("outputs g\ninputs r\nlead 0\n", 0), ("inputs r\noutput g\nlead 0\n", 1),
                           ("inputs r\ninputs g\nlead 0\n", 1), ("inputs r\noutputs g g\nlead 0\n", 1),
                           ("inputs r s\noutputs g s\nlead 0\n", 1), ("inputs r\noutputs a b c d\nlead 0\n", 1),
                           ("inputs r\noutputs forall\nlead 0\n", 1), ("inputs r\noutputs g \nlead 0\n", 1),
                           ("inputs r\n\noutputs g\nlead 0\n", 1), ("inputs a b c\noutputs d e f\nlead 0\n", None)]:
            if line is None:
                self.assertEqual(len(parse_spec(text).signals), 6)
            else:
                self.fails(text, line)

    def test_the_lead(self):
        for lead in range(-3, 3):
            self.assertEqual(parse_spec(f"inputs\noutputs\nlead {lead}\n").lead, lead)
        for word in ["lead", "lead ", "lead 3", "lead -4", "lead 00", "lead 01", "lead -01", "lead -0", "lead +1", "lead  1",
                     "lead 1 ", " lead 1", "lead 10", "lead - 1", "lead x", "Lead 1", "lead1", "lead 1 1", "assume true"]:
            self.fails(f"inputs\noutputs\n{word}\n", 2)

    def test_lines_behind_the_lead(self):
        for lines, line in [(["assume"], 3), (["guarantee"], 3), (["assumer"], 3), (["Assume r"], 3), ([" assume r"], 3),
                            ([""], 3), (["negated "], 3), ([" negated"], 3), (["negate"], 3), (["negated", "negated"], 3),
                            (["negated", "guarantee r"], 3), (["guarantee r", "assume r"], 4),
                            (["assume r", "guarantee r", "assume r"], 5), (["guarantee r", "negated", "guarantee g"], 4),
                            (["guarantee r", ""], 4), (["guarantee r", "", "negated"], 4), (["assume r", "foo", "negated"], 4),
                            (["assume r"] * 7, 9), (["guarantee r"] * 7, 9), (["assume r"] * 3 + ["guarantee r"] * 4, 9),
                            (["assume r"] * 6 + ["guarantee r", "foo"], 9), (["guarantee r"] * 6 + ["foo", "guarantee r"], 9),
                            (["assume r"] * 6 + ["negated", "assume r"], 9), (["lead 0"], 3), (["inputs"], 3)]:
            self.fails(HEAD + "\n".join(lines) + "\n", line)
        for lines in [["assume r"] * 6, ["guarantee r"] * 6 + ["negated"], ["assume r"] * 2 + ["guarantee g"] * 4]:
            spec = parse_spec(HEAD + "\n".join(lines) + "\n")
            self.assertEqual(len(spec.assumptions + spec.guarantees), 6)
            self.assertIs(spec.negated, "negated" in lines)

    def test_too_few_lines_and_what_follows(self):
        for text, line in [("", 0), ("\n", 0), ("inputs r", 0), ("x", 0), ("inputs r\n", 1), ("inputs r\noutputs g\n", 2),
                           ("inputs r\noutputs g\nlead 0", 2), ("inputs r\noutputs g\nnonsense", 2), (HEAD + "x", 3),
                           (HEAD + "guarantee g", 3), (HEAD + "guarantee g\n ", 4), (HEAD + "guarantee g\nnegated", 4),
                           (HEAD + "negated\nx", 4), ("inputs R\noutputs g\nlead 0", 0), ("\n\n\n", 0)]:
            self.fails(text, line)

    def test_errors_of_properties(self):
        for line, error, position in [("assume ", FormulaSyntaxError, 0), ("guarantee ", FormulaSyntaxError, 0),
                                      ("assume r &", FormulaSyntaxError, 3), ("guarantee (r & ) g", FormulaSyntaxError, 5),
                                      ("guarantee  r r", FormulaSyntaxError, 3), ("assume r # g", FormulaSyntaxError, 2),
                                      ("assume exists true: r", FormulaSyntaxError, 7)]:
            for text in (HEAD + line + "\n", HEAD + "assume r\n" + line + "\nguarantee R\n"):
                with self.assertRaises(error) as caught:
                    parse_spec(text)
                self.assertEqual(caught.exception.position, position)
        for line, error, name in [("assume exists g: g", DuplicateSignal, "g"), ("assume exists h, h: g", DuplicateSignal, "h"),
                                  ("assume r & x & y", UnknownSignal, "x"), ("assume exists h: k", UnknownSignal, "k")]:
            with self.assertRaises(error) as caught:
                parse_spec(HEAD + line + "\n")
            self.assertEqual(caught.exception.name, name)
        for line in ["assume exists a, b, c, d: r", "assume " + "X" * 9 + "r", "assume " + "!" * 100 + "r",
                     "assume " + "(" * 21 + "r" + ")" * 21, "assume r" + " " * 200, "assume " + "X" * 201]:
            with self.assertRaises(TooLarge):
                parse_spec(HEAD + line + "\n")
        for line in ["assume r" + " " * 199, "assume " + "(" * 20 + "r" + ")" * 20, "assume " + "X" * 8 + "r",
                     "assume exists a, b, c: r"]:
            self.assertEqual(len(parse_spec(HEAD + line + "\n").assumptions), 1)

    def test_temporal_operators_together(self):
        spec = parse_spec(HEAD + "assume XXXr\nassume XXr\nguarantee exists h: XXXg\n")
        self.assertEqual(len(spec.assumptions), 2)
        for text in [HEAD + "assume XXXr\nassume XXr\nguarantee XXXXg\n", HEAD + "assume XXXr\nguarantee exists h: XXX XXX g\n",
                     HEAD + "guarantee XXXXXXXXr\nguarantee X r\nnegated\n"]:
            with self.assertRaises(TooLarge):
                parse_spec(text)

    def test_the_order_of_errors(self):
        # The first line with an error decides, whatever kind of error it is.
        self.fails("inputs R\noutputs R\nlead 9\nfoo\n", 0)
        self.fails("inputs r\noutputs r\nlead 9\nassume &\n", 1)
        self.fails("inputs r\noutputs g\nlead 9\nassume &\n", 2)
        with self.assertRaises(FormulaSyntaxError):
            parse_spec(HEAD + "assume &\nfoo\n")
        with self.assertRaises(UnknownSignal):
            parse_spec(HEAD + "assume x\nassume &\nrest")
        self.fails(HEAD + "guarantee g\nassume &\n", 4)
        self.fails(HEAD + "guarantee g\n" * 1 + "foo\nguarantee x\n", 4)
        self.fails(HEAD + "guarantee g\n" * 6 + "guarantee x\n", 9)
        # What stands in single lines comes ahead of the temporal operators together.
        self.fails(HEAD + "guarantee XXXXXr\nguarantee XXXXr\nrest", 5)
        self.fails(HEAD + "guarantee XXXXXr\nguarantee XXXXr\nfoo\n", 5)
        with self.assertRaises(UnknownSignal):
            parse_spec(HEAD + "guarantee XXXXXr\nguarantee XXXXx\n")
        with self.assertRaises(TooLarge):
            parse_spec(HEAD + "guarantee XXXXXXXXXr\nfoo\n")

    def test_texts_spoilt_at_one_place(self):
        chance = random.Random(2)
        errors = SpecSyntaxError, FormulaSyntaxError, UnknownSignal, DuplicateSignal, TooLarge
        read = 0
        for _ in range(1500):
            text = format_spec(random_spec(chance))
            at = chance.randrange(len(text))
            sign = chance.choice("\n 01-raxG&(:,Ugnegated")
            spoilt = chance.choice([text[:at] + sign + text[at:], text[:at] + text[at + 1:], text[:at] + sign + text[at + 1:]])
            try:
                spec = parse_spec(spoilt)
            except errors:
                continue
            read += 1
            self.assertEqual(parts(parse_spec(format_spec(spec))), parts(spec))
        self.assertGreater(read, 100)
