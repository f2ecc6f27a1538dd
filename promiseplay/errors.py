"""The errors that the program raises: one class for each kind of failure."""


class SynthError(ValueError):
    """The base class of all errors of the program."""


class EmptyLoop(SynthError):
    """A lasso was to be made with a loop without letters."""


class InvalidLetter(SynthError):
    """An integer is no letter where a letter is needed."""


class InvalidTurn(SynthError):
    """A number of turns is negative."""


class TooLarge(SynthError):
    """Something is beyond a bound that the document sets."""


class Mismatch(SynthError):
    """Two things do not fit together."""


class InvalidAutomaton(SynthError):
    """The arguments describe no automaton."""


class InvalidGame(SynthError):
    """The arguments describe no game."""


class InvalidPosition(SynthError):
    """An integer is no position of the game."""


class InvalidMachine(SynthError):
    """The arguments describe no machine."""


class MachineSyntaxError(SynthError):
    """A text is not the text of a machine."""


class InvalidSpec(SynthError):
    """The arguments describe no specification."""


class BadJournal(SynthError):
    """A text is not the beginning of a journal."""


class CertificateSyntaxError(SynthError):
    """A text is not the text of a certificate."""


class InvalidSight(SynthError):
    """A tuple is no sight of the specification."""


class InvalidPrices(SynthError):
    """Prices, a capacity or an amount do not fit the specification."""


class InvalidCircuit(SynthError):
    """The arguments describe no circuit."""


class InvalidShares(SynthError):
    """A pair is no shares of the specification."""


class NotSafe(SynthError):
    """The specification is not safe."""


class NotRealizable(SynthError):
    """The specification is not realizable."""


class FormulaSyntaxError(SynthError):
    """A text is no property; `position` is the index at which that shows."""

    def __init__(self, position):
        super().__init__(f"no property can go on at index {position}")
        self.position = position


class DuplicateSignal(SynthError):
    """A hidden signal has a name that is taken already: `name`."""

    def __init__(self, name):
        super().__init__(f"the name {name} is taken already")
        self.name = name


class UnknownSignal(SynthError):
    """A formula has a signal that is neither in the list nor hidden: `name`."""

    def __init__(self, name):
        super().__init__(f"there is no signal {name}")
        self.name = name


class SpecSyntaxError(SynthError):
    """A text is no specification; `line` is the index of the first wrong line."""

    def __init__(self, line):
        super().__init__(f"line {line} of the specification is wrong")
        self.line = line


class CircuitSyntaxError(SynthError):
    """A text is no circuit; `line` is the index of the first wrong line."""

    def __init__(self, line):
        super().__init__(f"line {line} of the circuit is wrong")
        self.line = line
