"""Journals: texts from which the run of a machine can be resumed after a crash."""

from promiseplay.errors import BadJournal, InvalidLetter
from promiseplay.numerals import is_number, number_in, numeral

FIRST_WORD = "journal "
HEARD = "heard "


class Journal:
    """A run of a machine, and its text."""

    def __init__(self, machine, *, spacing=4):
        self.machine = machine
        self.spacing = spacing
        self.text = f"{FIRST_WORD}{numeral(spacing)}\n"
        self.state = 0
        self.turns = 0
        self.told = machine.opening

    def hear(self, letter):
        """Let the machine hear a letter; return the list of the letters that it says then."""
        if letter < 0 or letter >= self.machine.inputs:
            raise InvalidLetter("the machine cannot hear the letter")
        self.state, emitted = self.machine.rows[self.state][letter]
        self.text += f"{HEARD}{numeral(letter)}\n"
        said = [emitted] if self.turns >= self.machine.lead else []
        self.told += tuple(said)
        self.turns += 1
        if self.turns % self.spacing == 0:
            self.text += f"state {numeral(self.turns)} {numeral(self.state)}\n"
        return said

    @property
    def said(self):
        """The tuple of all letters that the machine has said so far."""
        return self.told


def recover(machine, text):
    """The journal of a machine after a crash."""
    kept = text[:text.rfind("\n") + 1]
    if kept == "":
        return Journal(machine)
    lines = kept.split("\n")
    spacing = lines[0][len(FIRST_WORD):]
    if not lines[0].startswith(FIRST_WORD) or not is_number(spacing) or spacing == "0":
        raise BadJournal("the first line is wrong")
    journal = Journal(machine, spacing=number_in(spacing))
    for line in lines:
        if line.startswith(HEARD):
            hear_word(journal, line[len(HEARD):])
    # All that the journal may have besides is a line with the state at its end.
    if not journal.text.startswith(kept):
        raise BadJournal("the text is not the beginning of a journal of the machine")
    return journal


def hear_word(journal, word):
    """Let the machine of a journal hear the letter that a word writes."""
    if not is_number(word):
        raise BadJournal("a word is no letter")
    try:
        journal.hear(number_in(word))
    except InvalidLetter:
        raise BadJournal("the machine cannot hear a letter") from None
