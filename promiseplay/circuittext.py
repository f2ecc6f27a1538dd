"""Texts of circuits."""

from promiseplay.circuits import MOST_GATES, MOST_LATCHES, MOST_OUTS, MOST_WIRES, Circuit
from promiseplay.errors import CircuitSyntaxError
from promiseplay.numerals import small_number

# The lines besides those of the gates.
OTHER_LINES = 4


def format_circuit(circuit):
    """The text of a circuit."""
    counts = (circuit.wires, len(circuit.starts), len(circuit.gates), len(circuit.outs))
    lines = [line_of("circuit", counts), line_of("starts", circuit.starts)]
    lines.extend([line_of("gate", pair) for pair in circuit.gates])
    lines.extend([line_of("nexts", circuit.nexts), line_of("outs", circuit.outs)])
    return "".join(lines)


def line_of(word, numbers):
    """The line of a word and some numbers."""
    return " ".join([word] + [str(number) for number in numbers]) + "\n"


def parse_circuit(text):
    """The circuit that a text writes."""
    pieces = text.split("\n")
    lines = pieces[:-1]
    rows = []
    while len(rows) < len(lines) and (not rows or len(rows) < rows[0][2] + OTHER_LINES):
        rows.append(read_line(lines[len(rows)], rows))
    if len(rows) < len(lines) or pieces[-1] != "" or not rows or len(rows) < rows[0][2] + OTHER_LINES:
        raise CircuitSyntaxError(len(rows))
    return Circuit(rows[0][0], rows[1], rows[2:-2], rows[-2], rows[-1])


def read_line(line, rows):
    """The list of the numbers of a line; rows has those of the lines ahead of it."""
    number = len(rows)
    if number == 0:
        return read_numbers(line, number, "circuit", (MOST_WIRES, MOST_LATCHES, MOST_GATES, MOST_OUTS))
    wires, latches, gates, outs = rows[0]
    if number == 1:
        return read_numbers(line, number, "starts", (1,) * latches)
    ahead = 1 + wires + latches
    if number < 2 + gates:
        return read_numbers(line, number, "gate", (2 * (ahead + number - 2) - 1,) * 2)
    greatest = 2 * (ahead + gates) - 1
    if number == 2 + gates:
        return read_numbers(line, number, "nexts", (greatest,) * latches)
    return read_numbers(line, number, "outs", (greatest,) * outs)


def read_numbers(line, number, word, greatest):
    """The numbers of the line with an index, which begins with a word; none may be greater than in greatest."""
    words = line.split(" ")
    if words[0] != word or len(words) != 1 + len(greatest):
        raise CircuitSyntaxError(number)
    found = [small_number(text, most) for text, most in zip(words[1:], greatest)]
    if None in found:
        raise CircuitSyntaxError(number)
    return found
