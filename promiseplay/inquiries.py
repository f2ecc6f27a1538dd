"""What a workshop answers to questions about a specification."""

from promiseplay.certificates import audit
from promiseplay.errors import CertificateSyntaxError, InvalidPrices, InvalidSight, Mismatch
from promiseplay.faults import synthesize_bearing
from promiseplay.numerals import is_number, number_in
from promiseplay.paying import synthesize_priced
from promiseplay.reasons import cores
from promiseplay.shields import is_safe
from promiseplay.sight import synthesize_sighted
from promiseplay.smallest import smallest_system
from promiseplay.synthesis import synthesize
from promiseplay.watches import watch

KEPT = "KEPT"
LOST = "LOST"
NONE = "NONE"

# How many words each question has behind the name of its sheet: at least, and at most; None is no bound.
EXTENTS = {
    "VERDICT": (0, 0), "LEAST": (0, 0), "SEES": (0, None), "BEARS": (1, 1), "PAYS": (1, None), "CORES": (0, 0),
    "SAFE": (0, 0),
}

MOST_STATES = 3
FAULTS = ("0", "1", "2", "3")


def is_question(word, words):
    """Whether a word and what stands behind the name of the sheet are a question."""
    if word not in EXTENTS:
        return False
    least, most = EXTENTS[word]
    if len(words) < least or (most is not None and len(words) > most):
        return False
    if word == "BEARS":
        return words[0] in FAULTS
    if word == "PAYS":
        return is_number(words[0]) and all([is_price(price) for price in words[1:]])
    return True


def is_price(word):
    """Whether a word is a decimal number, perhaps with a minus sign."""
    return is_number(word[1:] if word.startswith("-") else word)


def price_in(word):
    """The number that a word writes, perhaps with a minus sign."""
    return -number_in(word[1:]) if word.startswith("-") else number_in(word)


def reply(spec, word, words):
    """The answer to a question about a specification."""
    if word == "VERDICT":
        return kept_or_lost(synthesize(spec))
    if word == "LEAST":
        return least_reply(spec)
    if word == "SEES":
        return sight_reply(spec, tuple(words))
    if word == "BEARS":
        return kept_or_lost(synthesize_bearing(spec, int(words[0])))
    if word == "PAYS":
        return price_reply(spec, number_in(words[0]), tuple([price_in(price) for price in words[1:]]))
    if word == "CORES":
        return core_reply(spec)
    return "YES" if is_safe(spec) else "NO"


def kept_or_lost(verdict):
    """What a verdict is called."""
    return KEPT if verdict.realizable else LOST


def least_reply(spec):
    """The number of states of a smallest system."""
    if len(spec.inputs) > 1 or len(spec.outputs) > 1:
        return "MANY"
    if not synthesize(spec).realizable:
        return LOST
    machine = smallest_system(spec, MOST_STATES)
    return "MORE" if machine is None else str(len(machine.rows))


def sight_reply(spec, seen):
    """Whether a system that sees some inputs alone can keep a specification."""
    try:
        return kept_or_lost(synthesize_sighted(spec, seen))
    except InvalidSight:
        return "NO SIGHT"


def price_reply(spec, capacity, prices):
    """The need of a specification with prices."""
    try:
        need = synthesize_priced(spec, prices, capacity).need
    except InvalidPrices:
        return "NO PRICES"
    return LOST if need is None else str(need)


def core_reply(spec):
    """The cores of a specification."""
    if spec.negated:
        return "NO CORES"
    told = [",".join([str(index) for index in core]) for core in cores(spec)]
    return " ".join(told) if told else NONE


def watch_reply(specs):
    """The number of states of the watch of some specifications."""
    try:
        return str(len(watch(specs).rows))
    except Mismatch:
        return "NO WATCH"


def audit_reply(spec, text):
    """Whether the claim of a text is true."""
    try:
        return "TRUE" if audit(spec, text) is None else "FALSE"
    except CertificateSyntaxError:
        return "NO TEXT"
    except Mismatch:
        return "NO FIT"
