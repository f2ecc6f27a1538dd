"""Reading the text of a property."""

from promiseplay.errors import DuplicateSignal, FormulaSyntaxError, TooLarge, UnknownSignal
from promiseplay.formulas import DOUBLING, depth, operator_count, temporal_count
from promiseplay.signals import is_name
from promiseplay.tokens import END, split_tokens

# The levels of the operators with two operands, those that bind least first.
LEVELS = (("<->",), ("->",), ("|",), ("&",), ("U", "W", "R", "S", "T"))
TO_THE_LEFT = ("|", "&")

BINARY = {
    "<->": "iff", "->": "implies", "|": "or", "&": "and",
    "U": "until", "W": "weak_until", "R": "release", "S": "since", "T": "trigger",
}
UNARY = {
    "!": "not", "X": "next", "F": "eventually", "G": "always",
    "Y": "previous", "Z": "weak_previous", "O": "once", "H": "historically",
}

MOST_CHARACTERS = 200
MOST_OPENINGS = 20
MOST_HIDDEN = 3
MOST_DEPTH = 100
MOST_TEMPORAL = 8
MOST_DOUBLING = 6


class Reader:
    """Reads a property token by token; `used` has the names of its formula in their order."""

    def __init__(self, text):
        self.tokens = split_tokens(text)
        self.at = 0
        self.used = []

    def token(self):
        """The token that comes next."""
        return self.tokens[self.at][0]

    def take(self):
        """Go behind the token that comes next and return it."""
        self.at += 1
        return self.tokens[self.at - 1][0]

    def fail(self):
        """Raise the error for the token that comes next."""
        raise FormulaSyntaxError(self.tokens[self.at][1])

    def expect(self, token):
        """Go behind a token that must come next."""
        if self.token() != token:
            self.fail()
        self.at += 1

    def read_property(self):
        """Read the whole text."""
        quantifier = ""
        hidden = []
        if self.token() in ("exists", "forall"):
            quantifier = self.take()
            hidden = self.read_hidden()
        formula = self.read_level(0)
        self.expect(END)
        return (quantifier, tuple(hidden), formula) if hidden else formula

    def read_hidden(self):
        """Read the hidden names and the colon behind them."""
        hidden = [self.read_name()]
        while self.token() == ",":
            self.at += 1
            hidden.append(self.read_name())
        self.expect(":")
        return hidden

    def read_name(self):
        """Read a name."""
        if not is_name(self.token()):
            self.fail()
        return self.take()

    def read_level(self, level):
        """Read a formula whose operators outside of parentheses bind at least as a level does."""
        if level == len(LEVELS):
            return self.read_unary()
        operands = [self.read_level(level + 1)]
        signs = []
        while self.token() in LEVELS[level]:
            signs.append(self.take())
            operands.append(self.read_level(level + 1))
        if LEVELS[level][0] in TO_THE_LEFT:
            return join_left(operands, signs)
        return join_right(operands, signs)

    def read_unary(self):
        """Read signs with one operand and what they stand before."""
        signs = []
        while self.token() in UNARY:
            signs.append(self.take())
        formula = self.read_atom()
        for sign in reversed(signs):
            formula = (UNARY[sign], formula)
        return formula

    def read_atom(self):
        """Read a constant, a signal or a formula in parentheses."""
        token = self.token()
        if token in ("true", "false"):
            self.at += 1
            return (token,)
        if token == "(":
            self.at += 1
            formula = self.read_level(0)
            self.expect(")")
            return formula
        name = self.read_name()
        self.used.append(name)
        return ("signal", name)


def join_left(operands, signs):
    """The formula of operands with signs between them that associate to the left."""
    formula = operands[0]
    for k, sign in enumerate(signs):
        formula = (BINARY[sign], formula, operands[k + 1])
    return formula


def join_right(operands, signs):
    """The formula of operands with signs between them that associate to the right."""
    formula = operands[len(signs)]
    for k in reversed(range(len(signs))):
        formula = (BINARY[signs[k]], operands[k], formula)
    return formula


def parse_property(text, names):
    """The property that a text writes; names is the list of signals."""
    if len(text) > MOST_CHARACTERS or text.count("(") > MOST_OPENINGS:
        raise TooLarge("the text is too long")
    reader = Reader(text)
    prop = reader.read_property()
    hidden = prop[1] if prop[0] in ("exists", "forall") else ()
    check_names(names, hidden, reader.used)
    formula = prop[2] if hidden else prop
    if len(hidden) > MOST_HIDDEN or beyond_bounds(formula):
        raise TooLarge("the property is too large")
    return prop


def check_names(names, hidden, used):
    """Raise an error for a hidden name that is taken, then for a name that is unknown."""
    known = {name: True for name in names}
    for name in hidden:
        if name in known:
            raise DuplicateSignal(name)
        known[name] = True
    for name in used:
        if name not in known:
            raise UnknownSignal(name)


def beyond_bounds(formula):
    """Whether a formula breaks one of the bounds for formulas."""
    if depth(formula) > MOST_DEPTH or temporal_count(formula) > MOST_TEMPORAL:
        return True
    return operator_count(formula, DOUBLING) > MOST_DOUBLING
