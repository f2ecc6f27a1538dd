import random
import unittest

from oracles import random_machine, slow_said
from promiseplay.errors import BadJournal, InvalidLetter
from promiseplay.journals import Journal, recover
from promiseplay.machines import Machine

LEADS = [-3, -2, -1, 0, 1, 2]


def echo(lead=-1, letters=2):
    return Machine(letters, letters, lead, [0] * max(0, -lead), [[(0, k) for k in range(letters)]])


def slow_text(machine, heard, spacing):
    """The text of a journal when some letters were heard."""
    text = f"journal {spacing}\n"
    state = 0
    for turn, letter in enumerate(heard):
        state = machine.rows[state][letter][0]
        text += f"heard {letter}\n"
        if (turn + 1) % spacing == 0:
            text += f"state {turn + 1} {state}\n"
    return text


def slow_state(machine, heard):
    state = 0
    for letter in heard:
        state = machine.rows[state][letter][0]
    return state


def is_beginning(machine, kept):
    """Whether whole lines are the beginning of a journal, by trying all short ones of a machine with two letters."""
    lines = kept.split("\n")
    for spacing in range(1, 100):
        if lines[0] == f"journal {spacing}":
            for many in range(6):
                for bits in range(1 << many):
                    if slow_text(machine, [bits >> k & 1 for k in range(many)], spacing).startswith(kept):
                        return True
    return False


class Journals(unittest.TestCase):
    def test_the_example(self):
        machine = Machine(2, 2, -1, [0], [[(0, 0), (0, 1)]])
        journal = Journal(machine, spacing=2)
        told = [journal.hear(1), journal.hear(0), journal.hear(1)]
        again = recover(machine, journal.text[:30])
        self.assertEqual((told, journal.said, again.said, again.text),
                         ([[1], [0], [1]], (0, 1, 0, 1), (0, 1, 0), "journal 2\nheard 1\nheard 0\nstate 2 0\n"))

    def test_a_new_journal(self):
        machine = echo(-2)
        journal = Journal(machine)
        self.assertIs(journal.machine, machine)
        self.assertEqual((journal.spacing, journal.text, journal.state, journal.said), (4, "journal 4\n", 0, (0, 0)))
        self.assertEqual(Journal(machine, spacing=1).text, "journal 1\n")
        self.assertEqual(Journal(echo(2)).said, ())

    def test_text_after_each_letter(self):
        chance = random.Random(1)
        for k in range(120):
            machine = random_machine(chance, chance.choice([1, 2, 3, 12]), chance.choice([1, 2, 12]), LEADS[k % 6], 12)
            spacing = chance.choice([1, 1, 2, 3, 4, 7, 100, 10 ** 30])
            journal = Journal(machine, spacing=spacing)
            heard = []
            for _ in range(chance.randint(0, 14)):
                letter = chance.randrange(machine.inputs)
                before = len(slow_said(machine, heard)) if heard else len(machine.opening)
                heard.append(letter)
                said = journal.hear(letter)
                self.assertIs(type(said), list)
                self.assertEqual(said, slow_said(machine, heard)[before:])
                self.assertEqual(len(said), 0 if len(heard) <= machine.lead else 1)
                self.assertEqual(journal.text, slow_text(machine, heard, spacing))
                self.assertEqual((journal.state, journal.spacing), (slow_state(machine, heard), spacing))
                self.assertEqual(journal.said, tuple(slow_said(machine, heard)))
                self.assertIs(type(journal.said), tuple)

    def test_spacing_of_one_and_spacing_left_out(self):
        journal = Journal(echo(0), spacing=1)
        for letter in (1, 0):
            journal.hear(letter)
        self.assertEqual(journal.text, "journal 1\nheard 1\nstate 1 0\nheard 0\nstate 2 0\n")
        journal = Journal(echo(0, 11))
        for letter in (10, 0, 3, 9, 10):
            journal.hear(letter)
        self.assertEqual(journal.text, "journal 4\nheard 10\nheard 0\nheard 3\nheard 9\nstate 4 0\nheard 10\n")

    def test_wrong_letters_change_nothing(self):
        journal = Journal(echo(1), spacing=2)
        journal.hear(1)
        before = dict(vars(journal))
        for letter in (-1, 2, 10):
            with self.assertRaises(InvalidLetter):
                journal.hear(letter)
            self.assertEqual(vars(journal), before)
        self.assertEqual(journal.hear(0), [0])


class Recovery(unittest.TestCase):
    def test_every_cut(self):
        chance = random.Random(2)
        for k in range(40):
            machine = random_machine(chance, chance.choice([1, 2, 11]), 2, LEADS[k % 6], 11)
            spacing = chance.choice([1, 2, 3, 10])
            heard = [chance.randrange(machine.inputs) for _ in range(chance.randint(0, 8))]
            text = slow_text(machine, heard, spacing)
            for cut in range(len(text) + 1):
                kept = text[:cut]
                lines = kept.count("\n")
                many = len([line for line in kept.split("\n")[:-1] if line.startswith("heard")])
                wanted = Journal(machine, spacing=spacing if lines else 4)
                for letter in heard[:many]:
                    wanted.hear(letter)
                for rest in ["", "x", "heard 1", "!state 7"][:1 + 3 * (cut % 2)]:
                    if rest and not kept.endswith("\n") and kept:
                        continue
                    found = recover(machine, kept + rest)
                    self.assertEqual(vars(found), vars(wanted))
                    self.assertEqual(found.said, wanted.said)
                    again = recover(machine, found.text)
                    self.assertEqual(vars(again), vars(found))
                for letter in heard[many:]:
                    self.assertEqual(found.hear(letter), wanted.hear(letter))
                self.assertEqual(vars(found), vars(wanted))
                if lines:
                    self.assertEqual(found.text, text)

    def test_no_line_feed(self):
        for text in ["", "j", "journal 7", "nonsense", "heard 1"]:
            found = recover(echo(), text)
            self.assertEqual((found.text, found.spacing, found.state, found.said), ("journal 4\n", 4, 0, (0,)))

    def test_a_missing_line_with_the_state(self):
        found = recover(echo(0), "journal 2\nheard 1\nheard 1\nsta")
        self.assertEqual(found.text, "journal 2\nheard 1\nheard 1\nstate 2 0\n")
        self.assertEqual(recover(echo(0), "journal 1\n").text, "journal 1\n")
        self.assertEqual(recover(echo(0), "journal 1\nheard 0\n").text, "journal 1\nheard 0\nstate 1 0\n")

    def test_what_is_no_beginning_of_a_journal(self):
        machine = Machine(2, 2, 0, [], [[(1, 0), (0, 1)], [(0, 0), (1, 1)]])
        right = "journal 2\nheard 0\nheard 1\nstate 2 1\nheard 0\n"
        self.assertEqual(recover(machine, right).text, right)
        for text in ["\n", "\njournal 2\n", "journal\n", "journal \n", "journal 0\n", "journal 02\n", "journal -1\n",
                     "journal 2 \n", " journal 2\n", "journal  2\n", "journal x\n", "Journal 2\n", "journal 2 2\n",
                     "heard 0\n", "journals 2\n", "journal +2\n", "journal 1_0\n", "journal2\n",
                     right.replace("journal 2", "journal 3"), right.replace("journal 2", "journal 1"),
                     right.replace("state 2 1", "state 2 0"), right.replace("state 2 1", "state 1 1"),
                     right.replace("state 2 1", "state 2 2"), right.replace("state 2 1", "state 02 1"),
                     right.replace("state 2 1", "state 2 01"), right.replace("state 2 1", "state 2 1 "),
                     right.replace("state 2 1", "state  2 1"), right.replace("state 2 1\n", ""),
                     right.replace("state 2 1", "State 2 1"), right.replace("state 2 1\n", "state 2 1\nstate 2 1\n"),
                     right.replace("heard 1", "heard 2"), right.replace("heard 1", "heard -1"),
                     right.replace("heard 1", "heard 01"), right.replace("heard 1", "heard"),
                     right.replace("heard 1", "heard "), right.replace("heard 1", "heard  1"),
                     right.replace("heard 1", "heard 1 "), right.replace("heard 1", "hear 1"),
                     right.replace("heard 1", "heard x"), right.replace("heard 1", "heard 0"),
                     right.replace("heard 1", "heard " + "9" * 3900), right.replace("heard 1\n", "heard 1\n\n"),
                     right + "state 3 0\n", right + "\n", right + "journal 2\n", right + "heard 0\nheard 1\n", right + "x\n",
                     right.replace("\nheard 0\nheard 1", "\nstate 0 0\nheard 0\nheard 1")]:
            with self.assertRaises(BadJournal, msg=repr(text[:80])):
                recover(machine, text)
            with self.assertRaises(BadJournal):
                recover(machine, text + "heard 1")

    def test_the_journal_of_another_machine(self):
        first = Machine(2, 2, 0, [], [[(1, 0), (0, 1)], [(0, 0), (1, 1)]])
        second = Machine(2, 2, 0, [], [[(0, 0), (1, 1)], [(1, 0), (0, 1)]])
        third = Machine(3, 2, 0, [], [[(0, 0), (0, 0), (0, 1)]])
        text = slow_text(first, [0, 1, 1], 1)
        with self.assertRaises(BadJournal):
            recover(second, text)
        with self.assertRaises(BadJournal):
            recover(first, slow_text(third, [2], 5))

    def test_texts_spoilt_at_one_place(self):
        chance = random.Random(3)
        machine = Machine(2, 2, 0, [], [[(1, 0), (0, 1)], [(0, 0), (1, 1)]])
        read = 0
        for _ in range(2000):
            text = slow_text(machine, [chance.randint(0, 1) for _ in range(chance.randint(0, 4))], chance.randint(1, 3))
            at = chance.randrange(len(text))
            sign = chance.choice("0123 \nheardst-")
            spoilt = chance.choice([text[:at] + sign + text[at:], text[:at] + text[at + 1:], text[:at] + sign + text[at + 1:]])
            kept = spoilt[:spoilt.rfind("\n") + 1]
            if kept == "" or is_beginning(machine, kept):
                read += 1
                self.assertTrue(recover(machine, spoilt).text.startswith(kept))
            else:
                with self.assertRaises(BadJournal, msg=repr(spoilt)):
                    recover(machine, spoilt)
        self.assertGreater(read, 50)
