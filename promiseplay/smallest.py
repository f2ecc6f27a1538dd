"""Systems with as few states as possible."""

from promiseplay.blanks import Blanks, Ground, Hand
from promiseplay.fillings import Filling
from promiseplay.minimization import minimize


def smallest_system(spec, limit):
    """A smallest system for a specification if it has at most limit states, otherwise None."""
    hears = list(range(1 << len(spec.inputs)))
    says = list(range(1 << len(spec.outputs)))
    ground = Ground(spec)
    for states in range(1, limit + 1):
        blanks = Blanks(ground, [Hand(states, hears, says)])
        filling = Filling(blanks)
        if filling.fill():
            return minimize(blanks.machine(0, filling.given))
    return None
