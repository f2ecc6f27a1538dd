"""Why a specification is not realizable, and what would help."""

from promiseplay.errors import InvalidSpec, TooLarge
from promiseplay.formulas import formula_of, temporal_count
from promiseplay.parsing import MOST_TEMPORAL
from promiseplay.places import ascends
from promiseplay.specs import Spec
from promiseplay.spectext import MOST_PROPERTIES
from promiseplay.synthesis import synthesize


def check_size(spec, candidates):
    """Raise an error for a negated specification, then for one that is too large together with some candidates."""
    if spec.negated:
        raise InvalidSpec("the specification is negated")
    properties = spec.assumptions + spec.guarantees + tuple(candidates)
    if len(properties) > MOST_PROPERTIES:
        raise TooLarge("there are too many properties")
    if sum([temporal_count(formula_of(prop)) for prop in properties]) > MOST_TEMPORAL:
        raise TooLarge("there are too many temporal operators")


def check_indexes(indexes, count):
    """Raise InvalidSpec if some indexes do not ascend strictly or are not all below count."""
    if not ascends(indexes, count):
        raise InvalidSpec("the indexes do not ascend, or one of them is none")


def share(spec, indexes):
    """The share of a specification with some of its guarantees."""
    check_size(spec, ())
    check_indexes(indexes, len(spec.guarantees))
    return part_of(spec, indexes)


def part_of(spec, indexes):
    """The specification with some of its guarantees alone."""
    guarantees = [spec.guarantees[index] for index in indexes]
    return Spec(spec.inputs, spec.outputs, spec.lead, spec.assumptions, guarantees)


def cores(spec):
    """The ascending tuple of all least sets of guarantees that cannot be kept."""
    return conflicts(spec)[0]


def keepable_parts(spec):
    """The ascending tuple of all greatest sets of guarantees that can be kept."""
    return conflicts(spec)[1]


def conflicts(spec):
    """The cores and the keepable parts of a specification."""
    check_size(spec, ())

    def cannot_be_kept(indexes):
        """Whether the share of some guarantees is not realizable."""
        return not synthesize(part_of(spec, indexes)).realizable

    return borders(len(spec.guarantees), cannot_be_kept)


def helps(spec, candidates):
    """The ascending tuple of all least sets of candidates with which a specification is realizable."""
    check_size(spec, candidates)

    def can_be_kept(indexes):
        """Whether the specification is realizable with some candidates assumed."""
        assumptions = spec.assumptions + tuple([candidates[index] for index in indexes])
        return synthesize(Spec(spec.inputs, spec.outputs, spec.lead, assumptions, spec.guarantees)).realizable

    return borders(len(candidates), can_be_kept)[0]


def is_honest(spec, candidates, indexes):
    """Whether the surroundings can make all assumptions and some candidates true, whatever a system says."""
    check_size(spec, candidates)
    check_indexes(indexes, len(candidates))
    promises = spec.assumptions + tuple([candidates[index] for index in indexes])
    return synthesize(Spec(spec.outputs, spec.inputs, -1 - spec.lead, [], promises)).realizable


def borders(count, test):
    """The least sets of indexes below count of which a test is true, and the greatest ones of which it is not.

    What is true of a set must be true of all sets that contain it.
    """
    least = []
    greatest = []
    unknown = subsets(count)
    while unknown:
        # All sets that contain the last one are known already.
        found = unknown[-1]
        if test(found):
            found = shrunk(found, test, greatest)
            least.append(found)
            unknown = [chosen for chosen in unknown if not is_within(found, chosen)]
        else:
            greatest.append(found)
            unknown = [chosen for chosen in unknown if not is_within(chosen, found)]
    return tuple(sorted(least)), tuple(sorted(greatest))


def subsets(count):
    """All sets of indexes below count, as ascending tuples; what is within another one stands ahead of it."""
    found = [()]
    for index in range(count):
        found = found + [chosen + (index,) for chosen in found]
    return found


def shrunk(whole, test, failing):
    """A least set within one of which a test is true; it is not true of some sets that are known to fail."""
    found = whole
    for index in whole:
        rest = tuple([other for other in found if other != index])
        if not any([is_within(rest, other) for other in failing]) and test(rest):
            found = rest
    return found


def is_within(first, second):
    """Whether all indexes of one set are in another one."""
    return all([index in second for index in first])
