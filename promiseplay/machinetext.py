"""Texts of machines."""

from promiseplay.errors import InvalidMachine, MachineSyntaxError
from promiseplay.machines import LEADS, Machine
from promiseplay.numerals import is_number, number_in, numeral


def format_machine(machine):
    """The text of a machine."""
    lines = [f"machine {numeral(machine.inputs)} {numeral(machine.outputs)} {machine.lead}"]
    lines.append(" ".join(["opening"] + [numeral(letter) for letter in machine.opening]))
    for row in machine.rows:
        lines.append(" ".join([f"{numeral(target)}/{numeral(letter)}" for target, letter in row]))
    return "\n".join(lines) + "\n"


def parse_machine(text):
    """The machine that a text writes."""
    lines = text.split("\n")
    if len(lines) < 3 or lines[-1] != "":
        raise MachineSyntaxError("a line is missing or not ended")
    inputs, outputs, lead = read_sizes(lines[0])
    opening = read_opening(lines[1])
    rows = [read_row(line) for line in lines[2:-1]]
    try:
        return Machine(inputs, outputs, lead, opening, rows)
    except InvalidMachine:
        raise MachineSyntaxError("the text describes no machine") from None


def read_numeral(word):
    """The number that a word writes."""
    if not is_number(word):
        raise MachineSyntaxError("a word is no number")
    return number_in(word)


def read_sizes(line):
    """The numbers of letters and the lead that the first line tells."""
    words = line.split(" ")
    if len(words) != 4 or words[0] != "machine" or words[3] not in [str(lead) for lead in LEADS]:
        raise MachineSyntaxError("the first line is wrong")
    return read_numeral(words[1]), read_numeral(words[2]), int(words[3])


def read_opening(line):
    """The letters of the opening."""
    words = line.split(" ")
    if words[0] != "opening":
        raise MachineSyntaxError("the second line is wrong")
    return [read_numeral(word) for word in words[1:]]


def read_row(line):
    """The pairs of the row of a state."""
    row = []
    for word in line.split(" "):
        parts = word.split("/")
        if len(parts) != 2:
            raise MachineSyntaxError("a word is no pair of a state and a letter")
        row.append((read_numeral(parts[0]), read_numeral(parts[1])))
    return row
