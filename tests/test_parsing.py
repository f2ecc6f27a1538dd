import random
import unittest

from oracles import random_formula
from promiseplay.errors import DuplicateSignal, FormulaSyntaxError, TooLarge, UnknownSignal
from promiseplay.parsing import parse_property
from promiseplay.printing import format_property

A, B, C, D = [("signal", name) for name in "abcd"]
NAMES = ["a", "b", "c", "d"]

ONE = {"!": "not", "X": "next", "F": "eventually", "G": "always",
       "Y": "previous", "Z": "weak_previous", "O": "once", "H": "historically"}
TWO = {"&": "and", "|": "or", "->": "implies", "<->": "iff", "U": "until", "W": "weak_until", "R": "release",
       "S": "since", "T": "trigger"}
LEVEL = {"<->": 0, "->": 1, "|": 2, "&": 3, "U": 4, "W": 4, "R": 4, "S": 4, "T": 4}


class Reading(unittest.TestCase):
    def reads(self, text, prop, names=NAMES):
        self.assertEqual(parse_property(text, names), prop)

    def test_examples(self):
        self.reads("a U b U !a & b", ("and", ("until", A, ("until", B, ("not", A))), B), ["a", "b"])
        self.reads("exists h: G(h <-> !Xh)", ("exists", ("h",), ("always", (
            "iff", ("signal", "h"), ("not", ("next", ("signal", "h")))))), [])
        with self.assertRaises(FormulaSyntaxError) as caught:
            parse_property("(a & ) b", ["a", "b"])
        self.assertEqual(caught.exception.position, 5)

    def test_constants_and_names(self):
        self.reads("true", ("true",))
        self.reads("false", ("false",))
        self.reads("a", A)
        self.reads("truex", ("signal", "truex"), ["truex"])
        self.reads("x1y22", ("signal", "x1y22"), ["x1y22"])
        self.reads("existsa", ("signal", "existsa"), ("existsa",))

    def test_each_operator(self):
        for sign, operator in ONE.items():
            self.reads(f"{sign}a", (operator, A))
            self.reads(f"{sign} {sign}a", (operator, (operator, A)))
        for sign, operator in TWO.items():
            self.reads(f"a{sign}b", (operator, A, B))

    def test_binding_of_two_operators(self):
        for first, one in TWO.items():
            for second, other in TWO.items():
                left = (other, (one, A, B), C)
                right = (one, A, (other, B, C))
                if LEVEL[first] != LEVEL[second]:
                    wanted = left if LEVEL[first] > LEVEL[second] else right
                else:
                    wanted = left if first in "&|" else right
                self.reads(f"a {first} b {second} c", wanted)
                self.reads(f"(a {first} b) {second} c", left)
                self.reads(f"a {first} (b {second} c)", right)

    def test_signs_with_one_operand_bind_most(self):
        for sign, operator in ONE.items():
            for other, joined in TWO.items():
                self.reads(f"{sign} a {other} {sign} b", (joined, (operator, A), (operator, B)))
                self.reads(f"{sign}(a {other} b)", (operator, (joined, A, B)))

    def test_chains(self):
        self.reads("a & b & c & d", ("and", ("and", ("and", A, B), C), D))
        self.reads("a | b | c | d", ("or", ("or", ("or", A, B), C), D))
        self.reads("a -> b -> c -> d", ("implies", A, ("implies", B, ("implies", C, D))))
        self.reads("a <-> b <-> c <-> d", ("iff", A, ("iff", B, ("iff", C, D))))
        self.reads("a U b W c R d", ("until", A, ("weak_until", B, ("release", C, D))))
        self.reads("a S b T c U d", ("since", A, ("trigger", B, ("until", C, D))))
        self.reads("a <-> b -> c | d & a U !b", (
            "iff", A, ("implies", B, ("or", C, ("and", D, ("until", A, ("not", B)))))))

    def test_spaces(self):
        wanted = ("implies", ("always", ("eventually", ("signal", "p"))), ("until", ("signal", "ab"), ("true",)))
        for text in ("GFp->abUtrue", "G F p -> ab U true", "  G  F  p  ->  ab  U  true  ", "G Fp->ab U(true)"):
            self.reads(text, wanted, ["p", "ab"])
        self.reads("GFp", ("always", ("eventually", ("signal", "p"))), ["p"])
        self.reads("ab", ("signal", "ab"), ["ab"])
        self.reads("aUb", ("until", A, B))
        self.reads("Xtrue", ("next", ("true",)))
        self.reads("a<->b->c", ("iff", A, ("implies", B, C)))
        self.reads("  exists  h , k : h & k  ", (
            "exists", ("h", "k"), ("and", ("signal", "h"), ("signal", "k"))), [])

    def test_quantified(self):
        body = ("until", ("signal", "h"), A)
        self.reads("forall h: h U a", ("forall", ("h",), body))
        self.reads("exists h,k1,m:h U a", ("exists", ("h", "k1", "m"), body))
        self.reads("forall k, h: h U a", ("forall", ("k", "h"), body))
        self.reads("exists h: a & b | c", ("exists", ("h",), ("or", ("and", A, B), C)))

    def test_names_stay(self):
        names = ["a", "b"]
        parse_property("exists h: a U h", names)
        self.assertEqual(names, ["a", "b"])
        self.reads("a", A, ("a",))

    def test_printed_properties_read_back(self):
        chance = random.Random(4)
        read = 0
        while read < 300:
            formula = random_formula(chance, NAMES + ["h"], 6, 4, 5)
            for prop in (("exists", ("h", "k2"), formula), ("forall", ("h",), formula)):
                text = format_property(prop)
                if len(text) <= 200 and text.count("(") <= 20:
                    self.reads(text, prop)
                    read += 1


class Printing(unittest.TestCase):
    def test_example(self):
        prop = ("always", ("implies", A, ("next", ("not", B))))
        self.assertEqual(format_property(prop), "G(a -> X!b)")

    def test_each_operator(self):
        self.assertEqual(format_property(("true",)), "true")
        self.assertEqual(format_property(("false",)), "false")
        self.assertEqual(format_property(("signal", "ab1")), "ab1")
        for sign, operator in ONE.items():
            self.assertEqual(format_property((operator, A)), sign + "a")
            self.assertEqual(format_property((operator, (operator, ("and", A, B)))), sign + sign + "(a & b)")
        for sign, operator in TWO.items():
            self.assertEqual(format_property((operator, A, (operator, B, ("true",)))), f"(a {sign} (b {sign} true))")

    def test_quantified(self):
        self.assertEqual(format_property(("exists", ("h",), ("next", ("signal", "h")))), "exists h: Xh")
        self.assertEqual(format_property(("forall", ("h", "k", "m"), ("or", A, B))), "forall h, k, m: (a | b)")


class SyntaxErrors(unittest.TestCase):
    def fails_at(self, text, position, names=NAMES):
        with self.assertRaises(FormulaSyntaxError, msg=text) as caught:
            parse_property(text, names)
        self.assertEqual(caught.exception.position, position, text)

    def test_too_early_ends(self):
        for text in ("", " ", "     ", "a &", "a & ", "!", "(a", "(a ", "((a)", "a U", "exists", "exists ", "exists h",
                     "exists h,", "exists h, k", "exists h:", "forall h: ", "a -> ", "G(a <-> X", "("):
            self.fails_at(text, len(text))

    def test_tokens_with_which_nothing_goes_on(self):
        for text, position in [
                ("a b", 2), ("(a & ) b", 5), ("& a", 0), ("a )", 2), ("()", 1), ("a true", 2), ("(a) (b)", 4),
                ("a ! b", 2), ("a X b", 2), ("a U U b", 4), ("a , b", 2), (", a", 0), ("a : b", 2), (": a", 0),
                ("-> a", 0), ("a -> -> b", 5), ("a <-> <-> b", 6), ("(a,b)", 2), ("a(b)", 1), ("trueUab b", 8),
                ("a &&", 3), ("a||b", 2), ("X", 1), ("X)", 1), ("aXb", 1)]:
            self.fails_at(text, position)

    def test_reserved_words(self):
        for text, position in [
                ("a & exists", 4), ("(exists h: h)", 1), ("exists h: exists k: k", 10), ("G forall h: h", 2),
                ("a exists", 2), ("exists true: a", 7), ("exists h, false: a", 10), ("exists exists: a", 7),
                ("forall h, forall: a", 10), ("exists", 6), ("exists h: forall", 10), ("!exists h: h", 1)]:
            self.fails_at(text, position)

    def test_hidden_names(self):
        for text, position in [
                ("exists h k: h", 9), ("exists h,, k: h", 9), ("exists : a", 7), ("exists h, : h", 10),
                ("exists (h): h", 7), ("exists h & k: h", 9), ("exists X: a", 7), ("exists h", 8),
                ("h: a", 1), ("exists h: a: b", 11), ("exists h -> a", 9)]:
            self.fails_at(text, position)

    def test_characters_that_begin_no_token(self):
        for character in "ABCDEIJKLMNPQV0123456789-<>=@#$'\"*+./;?[]^_`{}~\\\n":
            if character != "\n":
                self.fails_at(character, 0)
            self.fails_at(f"a & {character}", 4)
            self.fails_at(f"a {character}", 2)
            self.fails_at(f"a & b {character} c", 6)

    def test_broken_arrows(self):
        for text, position in [("a - b", 2), ("a < b", 2), ("a <- b", 2), ("a < -> b", 2), ("a - > b", 2),
                               ("a <<-> b", 2), ("a <-", 2), ("a -", 2), ("a --> b", 2), ("a <> b", 2), ("a > b", 2),
                               ("a ->- b", 4), ("a <->> b", 5), ("a =>b", 2)]:
            self.fails_at(text, position)

    def test_digits(self):
        self.fails_at("1", 0)
        self.fails_at("1a", 0)
        self.fails_at("a 1", 2)
        self.fails_at("(1)", 1)
        self.fails_at("a1 & 2b", 5)
        self.fails_at("X1", 1)

    def test_the_leftmost_fault_counts(self):
        self.fails_at("a b $", 2)
        self.fails_at("a $ b b", 2)
        self.fails_at("a & $ ) b", 4)
        self.fails_at(") $", 0)
        self.fails_at("(a $", 3)


class Errors(unittest.TestCase):
    def raises(self, error, text, names=NAMES, name=None):
        with self.assertRaises(error, msg=text) as caught:
            parse_property(text, names)
        self.assertIs(type(caught.exception), error)
        if name is not None:
            self.assertEqual(caught.exception.name, name)

    def test_characters(self):
        self.assertEqual(parse_property("a" + " " * 199, NAMES), A)
        self.raises(TooLarge, "a" + " " * 200)
        self.raises(TooLarge, "$" * 201)
        self.raises(FormulaSyntaxError, "$" * 200)

    def test_openings(self):
        self.assertEqual(parse_property("(" * 20 + "a" + ")" * 20, NAMES), A)
        self.raises(TooLarge, "(" * 21 + "a" + ")" * 21)
        self.raises(TooLarge, "(" * 21)
        self.raises(FormulaSyntaxError, "(" * 20)
        self.raises(TooLarge, "$" + "(a)" * 21)

    def test_duplicates(self):
        self.raises(DuplicateSignal, "exists a: a", name="a")
        self.raises(DuplicateSignal, "exists h, h: a", name="h")
        self.raises(DuplicateSignal, "forall h, b, h, a: a", name="b")
        self.raises(DuplicateSignal, "forall h, k, k, h: a", name="k")
        self.raises(DuplicateSignal, "forall h, k, h, k: a", name="h")

    def test_unknown_signals(self):
        self.raises(UnknownSignal, "x", name="x")
        self.raises(UnknownSignal, "a U (y & x)", name="y")
        self.raises(UnknownSignal, "exists h: h & k & z", name="k")
        self.raises(UnknownSignal, "a", [], name="a")
        self.raises(UnknownSignal, "x -> x | w", name="x")

    def test_hidden_bound(self):
        self.assertEqual(parse_property("exists h, k, m: a", NAMES), ("exists", ("h", "k", "m"), A))
        self.raises(TooLarge, "exists h, k, m, n: a")

    def test_depth(self):
        self.assertEqual(parse_property("!" * 99 + "a", NAMES)[0], "not")
        self.raises(TooLarge, "!" * 100 + "a")
        self.assertEqual(parse_property("a|" * 99 + "a", NAMES)[0], "or")
        self.raises(FormulaSyntaxError, "!" * 100)
        self.raises(TooLarge, "!" * 199 + "a")
        right = "->".join(["a"] * 66)
        self.assertEqual(parse_property(right, NAMES)[0], "implies")
        self.assertEqual(parse_property("!" * 98 + "Xa", NAMES)[0], "not")
        self.raises(TooLarge, "!" * 99 + "Xa")
        self.raises(TooLarge, "exists h:" + "!" * 100 + "h")

    def test_temporal_operators(self):
        self.assertEqual(parse_property("XFGYZOHX a", NAMES)[0], "next")
        for sign in "XFGYZOH":
            self.raises(TooLarge, sign * 9 + "a")
            self.assertIsNotNone(parse_property(sign * 8 + "a", NAMES))
        for sign in "URST":
            self.assertIsNotNone(parse_property(sign.join(["a"] * 9), NAMES))
            self.raises(TooLarge, sign.join(["a"] * 10))

    def test_iff_and_weak_until(self):
        self.assertIsNotNone(parse_property("<->".join(["a"] * 7), NAMES))
        self.raises(TooLarge, "<->".join(["a"] * 8))
        self.assertIsNotNone(parse_property("W".join(["a"] * 7), NAMES))
        self.raises(TooLarge, "W".join(["a"] * 8))
        self.assertIsNotNone(parse_property("aWbWcWd<->a<->b<->c", NAMES))
        self.raises(TooLarge, "aWbWcWd<->a<->b<->c<->d")

    def test_order(self):
        self.raises(TooLarge, "exists a, a: x $" + " " * 200)
        self.raises(FormulaSyntaxError, "exists a, a, a, a: x " + "!" * 110)
        self.raises(DuplicateSignal, "exists h, a, k, m, n: x & " + "!" * 110 + "a", name="a")
        self.raises(UnknownSignal, "exists h, k, m, n: x & " + "!" * 110 + "a", name="x")
        self.raises(UnknownSignal, "!" * 110 + "x", name="x")
        self.raises(TooLarge, "exists h, k, m, n: " + "!" * 110 + "a")
