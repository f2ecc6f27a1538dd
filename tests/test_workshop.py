import itertools
import random
import unittest

from oracles import lively_spec
from promiseplay.certificates import write_certificate
from promiseplay.errors import BadJournal
from promiseplay.shields import Shield
from promiseplay.spectext import format_spec, parse_spec
from promiseplay.workshop import Workshop, replayed, rescued


def text_of(*lines, inputs="r", outputs="g", lead=0):
    head = f"inputs {inputs}\noutputs {outputs}\nlead {lead}\n".replace(" \n", "\n")
    return head + "".join(line + "\n" for line in lines)


ECHO = text_of("guarantee G(g <-> r)")
ANSWER = text_of("guarantee G(r -> g)")
TURNS = text_of("guarantee G(r -> F g)", "guarantee G(g -> X !g)")
NEVER = text_of("guarantee G(g <-> X r)")
MANY = "9" * 5000


class Talk(unittest.TestCase):
    def talk(self, *pairs, workshop=None):
        """Give texts to a workshop, and look at its answers and its journal."""
        workshop = workshop or Workshop()
        for text, wanted in pairs:
            told = workshop.answer(text)
            self.assertIs(type(told), str)
            self.assertEqual(told, wanted, text)
        return workshop


class Sheets(Talk):
    def test_sheet(self):
        self.talk(("SHEET a\n" + ECHO, "OK"), ("SHEET b\n", "NO LINE 0"), ("SHEET b\ninputs r\n", "NO LINE 1"), ("SHEET b\n" + ECHO + "x", "NO LINE 4"), ("SHEET b\n" + text_of("guarantee G("), "NO PROPERTY"),
                  ("SHEET b\n" + text_of("guarantee x"), "NO PROPERTY"), ("SHEET b\n" + text_of("guarantee exists g: g"), "NO PROPERTY"), ("SHEET b\n" + text_of("guarantee " + "X" * 9 + "g"), "NO SIZE"),
                  ("SHEET b\n" + text_of("guarantee XXXXg", "guarantee XXXXXg"), "NO SIZE"), ("SHEET b\n" + text_of("guarantee " + "g " * 150), "NO SIZE"), ("SHEET b\n" + text_of("guarantee g", inputs="r r"), "NO LINE 0"),
                  ("SHEET b\n" + text_of(lead=3), "NO LINE 2"), ("SHEET b\n" + text_of("guarantee g", "assume g"), "NO LINE 4"), ("NAMES", "a"), ("SHEET b\n" + text_of(), "OK"), ("NAMES", "a b"))

    def test_names_of_sheets(self):
        self.talk(*[(f"SHEET {word}\n{ECHO}", "NO COMMAND") for word in ["A", "abcdefghi", "1a", "a_b", "true", "false", "exists", "forall", "a-b", "-", MANY]])
        self.talk(("NAMES", "NONE"), ("SHEET abcdefgh\n" + ECHO, "OK"), ("SHEET z9\n" + ECHO, "OK"), ("SHEET a10\n" + ECHO, "OK"), ("SHEET a9\n" + ECHO, "OK"), ("NAMES", "a10 a9 abcdefgh z9"))

    def test_the_form_of_the_command(self):
        for text in ["SHEET", "SHEET a", "SHEET\n" + ECHO, "SHEET \n" + ECHO, "SHEET  a\n" + ECHO, " SHEET a\n" + ECHO, "SHEET a \n" + ECHO, "SHEET a b\n" + ECHO, "sheet a\n" + ECHO, "\nSHEET a\n" + ECHO, "SHEETS a\n" + ECHO]:
            self.talk((text, "NO COMMAND"), ("NAMES", "NONE"), ("JOURNAL", ""))

    def test_the_ninth_sheet(self):
        workshop = self.talk(*[(f"SHEET {name}\n{ECHO}", "OK") for name in "abcdefgh"])
        self.talk(("SHEET i\n" + ECHO, "NO ROOM"), ("SHEET i\n", "NO ROOM"), ("SHEET i\n" + text_of("guarantee ("), "NO ROOM"), ("SHEET I\n", "NO COMMAND"), ("SHEET h\n", "NO LINE 0"), ("SHEET h\n" + ANSWER, "OK"),
                  ("DROP a", "OK"), ("SHEET i\n" + ECHO, "OK"), ("SHEET a\n" + ECHO, "NO ROOM"), ("NAMES", "b c d e f g h i"), ("UNDO", "OK"), ("SHEET a\n" + ECHO, "OK"), ("NAMES", "a b c d e f g h"), workshop=workshop)

    def test_drop_and_names(self):
        self.talk(("NAMES", "NONE"), ("DROP a", "NO SHEET"), ("SHEET b\n" + ECHO, "OK"), ("SHEET a\n" + ECHO, "OK"), ("NAMES", "a b"), ("DROP c", "NO SHEET"), ("DROP A", "NO SHEET"), ("DROP abcdefghi", "NO SHEET"), ("DROP true", "NO SHEET"),
                  ("DROP", "NO COMMAND"), ("DROP a b", "NO COMMAND"), ("DROP a ", "NO COMMAND"), ("DROP a\n", "NO COMMAND"), ("NAMES a", "NO COMMAND"), ("NAMES\n", "NO COMMAND"), ("DROP b", "OK"), ("NAMES", "a"), ("DROP b", "NO SHEET"),
                  ("DROP a", "OK"), ("NAMES", "NONE"))


class Changes(Talk):
    def test_undo_and_redo(self):
        self.talk(("UNDO", "NOTHING"), ("REDO", "NOTHING"), ("SHEET a\n" + ECHO, "OK"), ("REDO", "NOTHING"), ("UNDO", "OK"), ("NAMES", "NONE"), ("UNDO", "NOTHING"), ("REDO", "OK"), ("NAMES", "a"), ("REDO", "NOTHING"),
                  ("SHEET a\n" + NEVER, "OK"), ("VERDICT a", "LOST"), ("UNDO", "OK"), ("VERDICT a", "KEPT"), ("REDO", "OK"), ("VERDICT a", "LOST"), ("DROP a", "OK"), ("VERDICT a", "NO SHEET"), ("UNDO", "OK"), ("VERDICT a", "LOST"),
                  ("UNDO", "OK"), ("VERDICT a", "KEPT"), ("UNDO", "OK"), ("VERDICT a", "NO SHEET"), ("UNDO", "NOTHING"), ("REDO", "OK"), ("REDO", "OK"), ("VERDICT a", "LOST"), ("REDO", "OK"), ("NAMES", "NONE"), ("REDO", "NOTHING"))

    def test_a_change_ends_what_can_be_done_again(self):
        self.talk(("SHEET a\n" + ECHO, "OK"), ("SHEET b\n" + ECHO, "OK"), ("UNDO", "OK"), ("SHEET c\n" + ECHO, "OK"), ("REDO", "NOTHING"), ("NAMES", "a c"), ("UNDO", "OK"), ("UNDO", "OK"), ("REDO", "OK"), ("NAMES", "a"),
                  ("DROP a", "OK"), ("REDO", "NOTHING"), ("UNDO", "OK"), ("UNDO", "OK"), ("UNDO", "NOTHING"), ("NAMES", "NONE"))

    def test_a_sheet_that_puts_what_is_there_is_a_change(self):
        self.talk(("SHEET a\n" + ECHO, "OK"), ("SHEET b\n" + ECHO, "OK"), ("UNDO", "OK"), ("SHEET a\n" + ECHO, "OK"), ("REDO", "NOTHING"), ("UNDO", "OK"), ("NAMES", "a"), ("UNDO", "OK"), ("NAMES", "NONE"), ("UNDO", "NOTHING"))

    def test_what_is_refused_changes_nothing(self):
        self.talk(("SHEET a\n" + ECHO, "OK"), ("SHEET b\n" + ECHO, "OK"), ("UNDO", "OK"), ("SHEET c\n", "NO LINE 0"), ("DROP z", "NO SHEET"), ("UNDO x", "NO COMMAND"), ("REDO x", "NO COMMAND"), ("UNDO ", "NO COMMAND"), ("undo", "NO COMMAND"),
                  ("REDO\n", "NO COMMAND"), ("VERDICT a", "KEPT"), ("REDO", "OK"), ("NAMES", "a b"))

    def test_drawn_orders(self):
        chance = random.Random(1)
        for _ in range(40):
            workshop = Workshop()
            states, at = [{}], 0
            for _ in range(30):
                name = chance.choice("abc")
                kind = chance.choice(["SHEET", "DROP", "UNDO", "REDO"])
                now = dict(states[at])
                if kind in ("UNDO", "REDO"):
                    step = -1 if kind == "UNDO" else 1
                    fits = 0 <= at + step < len(states)
                    self.assertEqual(workshop.answer(kind), "OK" if fits else "NOTHING")
                    at += step if fits else 0
                elif kind == "DROP" and name not in now:
                    self.assertEqual(workshop.answer("DROP " + name), "NO SHEET")
                else:
                    text = chance.choice([ECHO, NEVER])
                    self.assertEqual(workshop.answer(f"SHEET {name}\n{text}" if kind == "SHEET" else "DROP " + name), "OK")
                    now[name] = text
                    if kind == "DROP":
                        del now[name]
                    states, at = states[:at + 1] + [now], at + 1
                self.assertEqual(workshop.answer("NAMES"), " ".join(sorted(states[at])) or "NONE")
                for one, text in states[at].items():
                    self.assertEqual(workshop.answer("VERDICT " + one), "KEPT" if text == ECHO else "LOST")
            self.assertEqual(replayed(workshop.journal()).answer("NAMES"), workshop.answer("NAMES"))


class Questions(Talk):
    def sheets(self, **texts):
        return self.talk(*[(f"SHEET {name}\n{text}", "OK") for name, text in texts.items()])

    def test_verdict_and_least(self):
        workshop = self.sheets(a=ECHO, b=TURNS, c=NEVER, d=text_of("guarantee G(g <-> YY r)"), e=text_of("guarantee x", outputs="x y"), f=text_of("guarantee g", inputs="r s"), h=text_of("guarantee g & X !g & XX !g & G(g <-> XXX g)", inputs=""))
        self.talk(("VERDICT a", "KEPT"), ("VERDICT b", "KEPT"), ("VERDICT c", "LOST"), ("LEAST a", "1"), ("LEAST b", "2"), ("LEAST c", "LOST"), ("LEAST d", "MORE"), ("LEAST e", "MANY"), ("LEAST f", "MANY"), ("LEAST h", "3"),
                  workshop=workshop)
        self.forms(workshop, "VERDICT", 0)
        self.forms(workshop, "LEAST", 0)

    def forms(self, workshop, word, more):
        """Commands with too few and too many words, and for sheets that there are not."""
        rest = " 0" * more
        self.talk((word, "NO COMMAND"), (f"{word} ", "NO COMMAND"), (f"{word} a{rest} x", "NO COMMAND"), (f"{word}  a{rest}", "NO COMMAND"), (f"{word} a{rest} ", "NO COMMAND"), (f" {word} a{rest}", "NO COMMAND"),
                  (f"{word} a{rest}\n", "NO COMMAND"), (f"{word.lower()} a{rest}", "NO COMMAND"), (f"{word}\na", "NO COMMAND"), (f"{word} zz{rest}", "NO SHEET"), (f"{word} A{rest}", "NO SHEET"), (f"{word} abcdefghi{rest}", "NO SHEET"),
                  (f"{word} {MANY}{rest}", "NO SHEET"), workshop=workshop)

    def test_sees(self):
        workshop = self.sheets(a=text_of("guarantee G(g <-> s)", inputs="r s"), b=text_of("guarantee G F g"))
        self.talk(("SEES a", "LOST"), ("SEES a r", "LOST"), ("SEES a s", "KEPT"), ("SEES a r s", "KEPT"), ("SEES b", "KEPT"), ("SEES b r", "KEPT"), ("SEES a s r", "NO SIGHT"), ("SEES a r r", "NO SIGHT"), ("SEES a g", "NO SIGHT"),
                  ("SEES a R", "NO SIGHT"), ("SEES a r s r s r s r s", "NO SIGHT"), ("SEES b s", "NO SIGHT"), ("SEES zz s r", "NO SHEET"), ("SEES Z", "NO SHEET"), ("SEES", "NO COMMAND"), ("SEES a ", "NO COMMAND"), ("SEES a  r", "NO COMMAND"),
                  ("SEES a r\n", "NO COMMAND"), workshop=workshop)

    def test_bears(self):
        workshop = self.sheets(a=ECHO, b=text_of("guarantee (g <-> r) | X(g <-> r)"), c=text_of("guarantee G F (g <-> r)"), d=NEVER)
        for name, wanted in [("a", 0), ("b", 1), ("c", 3), ("d", -1)]:
            self.talk(*[(f"BEARS {name} {k}", "KEPT" if k <= wanted else "LOST") for k in range(4)], workshop=workshop)
        self.talk(*[(f"BEARS a {word}", "NO COMMAND") for word in ["4", "-1", "00", "01", "x", "+1", "1.0", "10", MANY]], workshop=workshop)
        self.talk(("BEARS zz 4", "NO COMMAND"), ("BEARS zz 0", "NO SHEET"), workshop=workshop)
        self.forms(workshop, "BEARS", 1)

    def test_pays(self):
        workshop = self.sheets(a=text_of("guarantee g & X g"), b=text_of("guarantee G F g"), c=text_of(inputs="", outputs=""))
        self.talk(("PAYS a 9 0 0 -3 -4", "8"), ("PAYS a 8 0 0 -3 -4", "8"), ("PAYS a 7 0 0 -3 -4", "LOST"), ("PAYS b 5 0 0 -1 -1", "LOST"), ("PAYS b 5 1 1 -5 -5", "0"), ("PAYS b 1000 -1000 -1000 1000 1000", "0"), ("PAYS c 0 0", "0"),
                  ("PAYS c 5 -1", "LOST"), ("PAYS a 1001 0 0 0 0", "NO PRICES"), ("PAYS a 5 0 0 0", "NO PRICES"), ("PAYS a 5 0 0 0 0 0", "NO PRICES"), ("PAYS a 5", "NO PRICES"), ("PAYS a 5 0 0 0 1001", "NO PRICES"),
                  ("PAYS a 5 -1001 0 0 0", "NO PRICES"), (f"PAYS a {MANY} 0 0 0 0", "NO PRICES"), (f"PAYS a 5 0 0 0 {MANY}", "NO PRICES"), (f"PAYS a 5 0 0 0 -{MANY}", "NO PRICES"), ("PAYS zz 5 0", "NO SHEET"), (f"PAYS zz {MANY}", "NO SHEET"),
                  workshop=workshop)
        self.talk(*[(f"PAYS a {rest}", "NO COMMAND") for rest in ["-1 0 0 0 0", "05 0 0 0 0", "x 0 0 0 0", "5 0 0 0 x", "5 0 0 0 00", "5 0 0 0 -01", "5 0 0 0 --1", "5 0 0 0 +1", "5 0 0 0 -", "5 0 0  0 0", "5 0 0 0 0 ", "0" + MANY]],
                  workshop=workshop)
        self.talk(("PAYS", "NO COMMAND"), ("PAYS a", "NO COMMAND"), ("PAYS zz", "NO COMMAND"), ("PAYS zz x", "NO COMMAND"), ("PAYS a 5 0 0 0 0\n", "NO COMMAND"), workshop=workshop)

    def test_cores(self):
        workshop = self.sheets(a=ECHO, b=text_of("guarantee g", "guarantee !g", "guarantee false", "guarantee F g", "guarantee G !g"), c=text_of("guarantee false", "negated"), d=text_of())
        self.talk(("CORES a", "NONE"), ("CORES b", "0,1 0,4 2 3,4"), ("CORES c", "NO CORES"), ("CORES d", "NONE"), workshop=workshop)
        self.forms(workshop, "CORES", 0)

    def test_watch(self):
        workshop = self.sheets(a=text_of("guarantee g"), b=text_of("guarantee X g", lead=-2), c=text_of("guarantee h", outputs="h"), d=text_of("guarantee r"))
        self.talk(("WATCH a", "3"), ("WATCH a a a", "3"), ("WATCH a b", "7"), ("WATCH b a d", "13"), ("WATCH a c", "NO WATCH"), ("WATCH a b c", "NO WATCH"), ("WATCH c zz", "NO SHEET"), ("WATCH zz a c", "NO SHEET"), ("WATCH a c zz", "NO SHEET"),
                  ("WATCH a C", "NO SHEET"), ("WATCH a b a b", "NO COMMAND"), ("WATCH zz zz zz zz", "NO COMMAND"), ("WATCH", "NO COMMAND"), ("WATCH a ", "NO COMMAND"), ("WATCH a  b", "NO COMMAND"), ("WATCH a\n", "NO COMMAND"), workshop=workshop)

    def test_safe(self):
        workshop = self.sheets(a=ANSWER, b=TURNS)
        self.talk(("SAFE a", "YES"), ("SAFE b", "NO"), workshop=workshop)
        self.forms(workshop, "SAFE", 0)

    def test_audit(self):
        workshop = self.sheets(a=ECHO, b=NEVER)
        good, bad = write_certificate(parse_spec(ECHO)), write_certificate(parse_spec(NEVER))
        self.talk(("AUDIT a\n" + good, "TRUE"), ("AUDIT b\n" + bad, "TRUE"), ("AUDIT b\n" + good, "FALSE"), ("AUDIT a\n" + bad, "FALSE"), ("AUDIT a\n", "NO TEXT"), ("AUDIT a\nrealizable\n", "NO TEXT"), ("AUDIT a\n" + good + "x", "NO TEXT"),
                  ("AUDIT a\n\n" + good, "NO TEXT"), ("AUDIT a\nrealizable\nmachine 2 2 1\nopening\n0/0 0/1\n", "NO FIT"), (f"AUDIT a\nrealizable\nmachine 2 {MANY} 0\nopening\n0/0 0/1\n", "NO FIT"), ("AUDIT a", "NO COMMAND"), ("AUDIT", "NO COMMAND"),
                  ("AUDIT zz\n" + good, "NO SHEET"), ("AUDIT zz\n", "NO SHEET"), ("AUDIT A\n", "NO SHEET"), ("AUDIT zz", "NO COMMAND"), ("AUDIT a b\n" + good, "NO COMMAND"), ("AUDIT \n" + good, "NO COMMAND"), ("AUDIT a \n" + good, "NO COMMAND"),
                  ("AUDIT  a\n" + good, "NO COMMAND"), workshop=workshop)
        self.assertEqual(len(workshop.journal()), len(self.sheets(a=ECHO, b=NEVER).journal()))


class Shields(Talk):
    def test_each_answer(self):
        workshop = self.talk(("SAY 0 0", "NO SHIELD"), ("SAY 9 9", "NO SHIELD"), (f"SAY {MANY} 0", "NO SHIELD"), ("SAY x 0", "NO COMMAND"), ("SHIELD a", "NO SHEET"), ("SHEET a\n" + ANSWER, "OK"), ("SHEET b\n" + TURNS, "OK"),
                             ("SHEET c\n" + text_of("guarantee G r"), "OK"), ("SHEET d\n" + text_of("guarantee F r", lead=1), "OK"), ("SHIELD b", "NO SHIELD SAFE"), ("SHIELD c", "NO SHIELD KEPT"), ("SHIELD d", "NO SHIELD LEAD"),
                             ("SAY 0 0", "NO SHIELD"), ("SHIELD", "NO COMMAND"), ("SHIELD a b", "NO COMMAND"), ("SHIELD a\n", "NO COMMAND"), ("SHIELD zz", "NO SHEET"), ("SHIELD A", "NO SHEET"), ("SHIELD a", "OK"), ("SAY 0 0", "0"), ("SAY 0 1", "1"),
                             ("SAY 1 0", "1"), ("SAY 1 1", "1"), ("SAY 2 0", "NO LETTER"), ("SAY 0 2", "NO LETTER"), (f"SAY {MANY} 0", "NO LETTER"), (f"SAY 0 {MANY}", "NO LETTER"), ("SHIELD b", "NO SHIELD SAFE"), ("SAY 1 0", "1"))
        self.talk(*[(text, "NO COMMAND") for text in ["SAY", "SAY 0", "SAY 0 0 0", "SAY -1 0", "SAY 0 -1", "SAY 00 0", "SAY 0 01", "SAY a 0", "SAY 0  0", "SAY 0 0 ", "SAY 0 0\n", "SAY 0" + MANY + " 0"]], workshop=workshop)

    def test_a_shield_stays_as_it_is(self):
        ones = text_of("guarantee g & X !g & XX g & XXX !g")
        workshop = self.talk(("SHEET a\n" + ones, "OK"), ("SHIELD a", "OK"), ("SAY 0 0", "1"), ("SHEET a\n" + ANSWER, "OK"), ("SAY 0 1", "0"), ("DROP a", "OK"), ("SAY 0 0", "1"), ("UNDO", "OK"), ("UNDO", "OK"), ("REDO", "OK"), ("SAY 0 1", "0"),
                             ("SAY 0 1", "1"), ("SHIELD a", "OK"), ("SAY 1 0", "1"), ("SAY 0 0", "0"), ("UNDO", "OK"), ("SHIELD a", "OK"), ("SAY 0 0", "1"), ("SAY 0 1", "0"))
        self.assertEqual(replayed(workshop.journal()).answer("SAY 0 0"), "1")

    def test_drawn_wishes(self):
        chance = random.Random(2)
        met = 0
        while met < 12:
            spec = lively_spec(chance, 2, 2, lead=0)
            workshop = self.talk(("SHEET s\n" + format_spec(spec), "OK"))
            if workshop.answer("SHIELD s") == "OK":
                met += 1
                shield = Shield(spec)
                for _ in range(8):
                    heard, wish = chance.randrange(1 << len(spec.inputs)), chance.randrange(1 << len(spec.outputs))
                    self.assertEqual(workshop.answer(f"SAY {heard} {wish}"), str(shield.say(heard, wish)))


class Others(Talk):
    def test_no_command(self):
        workshop = Workshop()
        for text in ["", " ", "\n", "NAME", "names", "Names", "HELP", "NAMES NAMES", "JOURNAL x", "JOURNAL ", "journal", "SHEETa\n", "0", "%", "\t", "NAMES\t", "\u00e9", "SAY\n0 0", "\nNAMES", "NAMES\nNAMES", MANY, "A" * 5000, " ".join("a" * 500)]:
            self.assertEqual(workshop.answer(text), "NO COMMAND", text)
        self.assertEqual(workshop.journal(), "")

    def test_drawn_texts(self):
        chance = random.Random(3)
        first = ["SHEET", "DROP", "NAMES", "UNDO", "REDO", "VERDICT", "LEAST", "SEES", "BEARS", "PAYS", "CORES", "WATCH", "SAFE", "SHIELD", "SAY", "AUDIT", "JOURNAL", "a"]
        words = ["a", "b", "a", "b", "r", "0", "1", "2", "-1", "", "\n", "\n" + ECHO, "\n" + ANSWER, "x", "exists", "9" * 30]
        answers = {}
        workshop = Workshop()
        for _ in range(3000):
            kind = chance.choice(first)
            text = " ".join([kind] + [chance.choice(words) for _ in range(chance.randint(0, 3))]).replace(" \n", "\n")
            if kind == "SHEET" and chance.random() < 0.7:
                text = f"SHEET {chance.choice('ab')}\n{chance.choice([ECHO, ANSWER])}"
            told = workshop.answer(text)
            self.assertIs(type(told), str)
            answers[told] = answers.get(told, 0) + 1
        self.assertTrue({"OK", "NO COMMAND", "NO SHEET", "NOTHING", "KEPT"} <= set(answers), answers)
        self.assertEqual(replayed(workshop.journal()).journal(), workshop.journal())


class Journals(Talk):
    def full(self):
        """A workshop with a journal that has all that changes something."""
        return self.talk(("SHEET a\n" + ANSWER, "OK"), ("NAMES", "a"), ("SHEET b\n" + ECHO, "OK"), ("DROP zz", "NO SHEET"), ("DROP b", "OK"), ("UNDO", "OK"), ("REDO", "OK"), ("REDO", "NOTHING"), ("SHIELD a", "OK"), ("SAY 1 0", "1"),
                         ("SAY 7 0", "NO LETTER"), ("VERDICT a", "KEPT"), ("SAY 0 0", "0"), ("SHIELD zz", "NO SHEET"), ("SHEET a\n" + ANSWER, "OK"), ("UNDO", "OK"))

    def pieces(self):
        commands = ["SHEET a\n" + ANSWER, "SHEET b\n" + ECHO, "DROP b", "UNDO", "REDO", "SHIELD a", "SAY 1 0", "SAY 0 0", "SHEET a\n" + ANSWER, "UNDO"]
        return [f"{len(command)}\n{command}\n" for command in commands]

    def test_the_journal(self):
        workshop = self.full()
        self.assertEqual(workshop.journal(), "".join(self.pieces()))
        self.assertEqual(workshop.answer("JOURNAL"), workshop.journal())
        self.assertEqual(workshop.journal(), "".join(self.pieces()))
        self.assertEqual(Workshop().journal(), "")
        self.assertEqual(Workshop().answer("JOURNAL"), "")
        again = Workshop()
        again.answer("SHEET a\n" + ECHO)
        self.assertEqual(again.journal(), f"{len(ECHO) + 8}\nSHEET a\n{ECHO}\n")

    def test_replayed_gives_the_same_answers_later(self):
        for cut in range(len(self.pieces()) + 1):
            text = "".join(self.pieces()[:cut])
            first, second = replayed(text), replayed(text)
            self.assertEqual(first.journal(), text)
            plain = Workshop()
            for piece in self.pieces()[:cut]:
                plain.answer(piece.split("\n", 1)[1][:-1])
            for command in ["NAMES", "VERDICT a", "SAY 1 0", "UNDO", "NAMES", "REDO", "REDO", "UNDO", "UNDO", "SAFE b", "JOURNAL"]:
                told = plain.answer(command)
                self.assertEqual(first.answer(command), told)
            self.assertEqual(second.journal(), text)
        self.assertEqual(replayed("").journal(), "")

    def test_what_is_no_journal(self):
        good = self.pieces()
        sheet = good[0]
        wrong = ["\n", "x", "0\n\n", "6\nDROP a\n", "4\nUNDO\n", "4\nREDO\n", "5\nNAMES\n", "7\nSAY 0 0\n", "8\nSHIELD a\n", "7\nJOURNAL\n", "6\nfoobar\n", sheet + "9\nVERDICT a\n", sheet + "4\nREDO\n", sheet + "6\nDROP b\n", sheet + "7\nSAY 0 0\n",
                 sheet + "4\nUNDO", sheet + "4\nUNDO\n\n", sheet + "4\nUNDO\nx", sheet + "4\nUNDO\n4\nUNDO\n", sheet + "04\nUNDO\n", sheet + "+4\nUNDO\n", sheet + " 4\nUNDO\n", sheet + "4 \nUNDO\n", sheet + "3\nUNDO\n", sheet + "5\nUNDO\n",
                 sheet + "-4\nUNDO\n", sheet + "\nUNDO\n", sheet + f"{MANY}\nUNDO\n", sheet + f"0{MANY}\nUNDO\n", sheet + "8\nSHIELD b\n", sheet + "8\nSHIELD a\n7\nSAY 2 0\n", "4\n", "4", MANY, " " + sheet, sheet[:-1], sheet[1:],
                 "9\nSHEET a\n\n\n", f"{len(ECHO) + 9}\nSHEET a\n{ECHO}\n\n", sheet + "5\nUNDO\n\n"]
        for text in wrong:
            with self.assertRaises(BadJournal):
                replayed(text)
        for k in (1, 2, 3, 4, 5, 6, 7, 9):
            with self.assertRaises(BadJournal):
                replayed("".join(good[k:]))
        self.assertEqual(replayed("".join(good[8:])).answer("NAMES"), "NONE")

    def test_rescued(self):
        good = self.pieces()
        whole = "".join(good)
        ends = list(itertools.accumulate([len(piece) for piece in good], initial=0))
        for cut in range(len(whole) + 1):
            found = rescued(whole[:cut])
            self.assertEqual(found.journal(), whole[:max(end for end in ends if end <= cut)])
            if cut in ends:
                self.assertEqual(replayed(whole[:cut]).journal(), whole[:cut])
            else:
                with self.assertRaises(BadJournal):
                    replayed(whole[:cut])
        for more in ["x", "5\nNAMES\n" + good[2], "04\nUNDO\n", "4\nREDO\n4\nREDO\n", MANY + "\nUNDO\n", "\n", "3\nUNDO\n"]:
            self.assertEqual(rescued(whole + more).journal(), whole + ("4\nREDO\n" if more.startswith("4\nREDO") else ""))
        for text in ["", "x", "\n", "4\nUNDO\n" + good[0]]:
            self.assertEqual(rescued(text).journal(), "")


if __name__ == "__main__":
    unittest.main()
