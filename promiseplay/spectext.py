"""Texts of specifications."""

from promiseplay.errors import SpecSyntaxError, TooLarge
from promiseplay.formulas import formula_of, temporal_count
from promiseplay.machines import LEADS
from promiseplay.parsing import MOST_TEMPORAL, parse_property
from promiseplay.printing import format_property
from promiseplay.signals import is_name
from promiseplay.specs import MOST_SIGNALS, Spec

MOST_PROPERTIES = 6

# The lines ahead of the properties, and the words that begin those of the properties.
HEAD_LINES = 3
ASSUME = "assume "
GUARANTEE = "guarantee "


def format_spec(spec):
    """The text of a specification."""
    lines = [" ".join(("inputs",) + spec.inputs), " ".join(("outputs",) + spec.outputs), f"lead {spec.lead}"]
    for prop in spec.assumptions:
        lines.append(ASSUME + format_property(prop))
    for prop in spec.guarantees:
        lines.append(GUARANTEE + format_property(prop))
    if spec.negated:
        lines.append("negated")
    return "\n".join(lines) + "\n"


def parse_spec(text):
    """The specification that a text writes."""
    reader = SpecReader(text.split("\n"))
    for line in range(len(reader.lines)):
        reader.read_line(line)
    if len(reader.lines) < HEAD_LINES or reader.rest != "":
        raise SpecSyntaxError(len(reader.lines))
    if sum([temporal_count(formula_of(prop)) for prop in reader.assumptions + reader.guarantees]) > MOST_TEMPORAL:
        raise TooLarge("there are too many temporal operators")
    return Spec(reader.inputs, reader.outputs, reader.lead, reader.assumptions, reader.guarantees,
                negated=reader.negated)


class SpecReader:
    """Reads the text of a specification line by line; pieces are what stands around its line feeds."""

    def __init__(self, pieces):
        self.lines = pieces[:-1]
        self.rest = pieces[-1]
        self.inputs = []
        self.outputs = []
        self.lead = 0
        self.assumptions = []
        self.guarantees = []
        self.negated = False

    def read_line(self, line):
        """Read the line with an index."""
        text = self.lines[line]
        if line == 0:
            self.inputs = self.read_names(line, "inputs", [])
        elif line == 1:
            self.outputs = self.read_names(line, "outputs", self.inputs)
        elif line == 2:
            self.lead = self.read_lead(line)
        elif text.startswith(ASSUME) and not self.guarantees:
            self.assumptions.append(self.read_property(line, text[len(ASSUME):]))
        elif text.startswith(GUARANTEE):
            self.guarantees.append(self.read_property(line, text[len(GUARANTEE):]))
        elif text == "negated" and line == len(self.lines) - 1:
            self.negated = True
        else:
            raise SpecSyntaxError(line)

    def read_names(self, line, word, taken):
        """The names of a line that begins with a word; none of them may be taken already."""
        words = self.lines[line].split(" ")
        names = words[1:]
        if words[0] != word or len(names) > MOST_SIGNALS:
            raise SpecSyntaxError(line)
        for k, name in enumerate(names):
            if not is_name(name) or name in names[:k] or name in taken:
                raise SpecSyntaxError(line)
        return names

    def read_lead(self, line):
        """The lead that a line tells."""
        for lead in LEADS:
            if self.lines[line] == f"lead {lead}":
                return lead
        raise SpecSyntaxError(line)

    def read_property(self, line, text):
        """The property of a line."""
        if len(self.assumptions) + len(self.guarantees) == MOST_PROPERTIES:
            raise SpecSyntaxError(line)
        return parse_property(text, self.inputs + self.outputs)
