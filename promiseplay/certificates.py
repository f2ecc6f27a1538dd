"""Certificates: texts that claim that a specification is realizable or is not."""

from promiseplay.checking import breaking_word
from promiseplay.errors import CertificateSyntaxError, MachineSyntaxError
from promiseplay.machinetext import format_machine, parse_machine
from promiseplay.specs import dual
from promiseplay.synthesis import synthesize

REALIZABLE = "realizable\n"
UNREALIZABLE = "unrealizable\n"


def write_certificate(spec):
    """The certificate of a specification."""
    verdict = synthesize(spec)
    return (REALIZABLE if verdict.realizable else UNREALIZABLE) + format_machine(verdict.machine)


def audit(spec, text):
    """None if the claim of a text is true, otherwise a lasso that shows that it is not."""
    if text.startswith(REALIZABLE):
        return breaking_word(spec, claimed_machine(text[len(REALIZABLE):]))
    if text.startswith(UNREALIZABLE):
        return breaking_word(dual(spec), claimed_machine(text[len(UNREALIZABLE):]))
    raise CertificateSyntaxError("the first line is wrong")


def claimed_machine(text):
    """The machine whose text stands behind the first line."""
    try:
        return parse_machine(text)
    except MachineSyntaxError:
        raise CertificateSyntaxError("there is no text of a machine behind the first line") from None
