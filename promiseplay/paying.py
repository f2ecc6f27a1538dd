"""Systems that pay and earn."""

from promiseplay.bargains import Bargain
from promiseplay.checking import breaking_on
from promiseplay.courses import check_system
from promiseplay.errors import InvalidPrices
from promiseplay.fares import fare_course, fares_of
from promiseplay.minimization import minimize
from promiseplay.priced import MOST_PRICE
from promiseplay.synthesis import synthesize
from promiseplay.words import check_letters, normal_lasso

MOST_CAPACITY = 1000


class PricedVerdict:
    """The need of a specification with prices, and a system that lives with it or, if it is None, an opponent."""

    def __init__(self, need, machine):
        self.need = need
        self.machine = machine


def check_prices(spec, prices, capacity):
    """Raise InvalidPrices if prices are none for a specification, or if no purse has a capacity."""
    if len(prices) != 1 << len(spec.signals) or max(prices) > MOST_PRICE or min(prices) < -MOST_PRICE:
        raise InvalidPrices("there is not one price for each letter, or a price is too far from 0")
    check_amount(capacity, MOST_CAPACITY)


def check_amount(amount, capacity):
    """Raise InvalidPrices if an amount does not go into a purse."""
    if amount < 0 or amount > capacity:
        raise InvalidPrices("an amount is negative or too great")


def synthesize_priced(spec, prices, capacity):
    """The priced verdict on a specification."""
    check_prices(spec, prices, capacity)
    verdict = synthesize(spec)
    if not verdict.realizable:
        # What no system can promise for nothing, none can promise for money.
        return PricedVerdict(None, verdict.machine)
    bargain = Bargain(fares_of(spec, prices), spec.lead, capacity)
    bargain.solve()
    need = bargain.need()
    start = capacity if need is None else need
    # It is the system that answers exactly if its lead is not negative.
    if (need is None) == (spec.lead < 0):
        machine = bargain.answerer(start)
    else:
        machine = bargain.challenger(start)
    return PricedVerdict(need, minimize(machine))


def money_trouble(spec, prices, capacity, start, machine):
    """None if a machine lives with a start amount, otherwise a lasso with which its trace is short or breaks all."""
    check_prices(spec, prices, capacity)
    check_system(spec, machine)
    check_amount(start, capacity)
    fares = fares_of(spec, prices)
    course = fare_course(spec, fares)
    found = breaking_on(course, machine)
    if found is None:
        letters = short_path(course, fares, capacity, start, machine)
        if letters is not None:
            found = normal_lasso(letters, [0])
    return found


def short_path(course, fares, capacity, start, machine):
    """A list of letters with which a machine runs short, or None.

    Less money never helps, so each state and point is looked at again only with less of it.
    """
    # Each entry is a state, a point, an amount, the entry ahead of it and the letter heard there.
    entries = [(0, course.start(machine.opening), start, -1, 0)]
    least = {entries[0][:2]: start}
    at = 0
    while at < len(entries):
        state, point, amount, _, _ = entries[at]
        if amount == least[(state, point)]:
            for heard in range(machine.inputs):
                target, emitted = machine.rows[state][heard]
                price = fares.prices[point[0]][course.letter(point, heard, emitted)]
                left = min(amount + price, capacity)
                if left < 0:
                    return path_of(entries, at) + [heard]
                later, _ = course.step(point, heard, emitted)
                if left < least.get((target, later), capacity + 1):
                    least[(target, later)] = left
                    entries.append((target, later, left, at, heard))
        at += 1
    return None


def path_of(entries, at):
    """The list of the letters that led to an entry."""
    letters = []
    while entries[at][3] >= 0:
        letters.append(entries[at][4])
        at = entries[at][3]
    letters.reverse()
    return letters


def is_short(spec, prices, capacity, start, lasso):
    """Whether a word is short from a start amount on."""
    check_prices(spec, prices, capacity)
    check_amount(start, capacity)
    check_letters(lasso, len(prices))
    head, loop = lasso
    amount = after_letters(prices, capacity, start, head)
    known = {}
    # As soon as an amount comes back ahead of the loop, all goes on as before.
    while amount >= 0 and amount not in known:
        known[amount] = True
        amount = after_letters(prices, capacity, amount, loop)
    return amount < 0


def after_letters(prices, capacity, amount, letters):
    """The amount that is left behind some letters; -1 if it does not suffice."""
    for letter in letters:
        amount = min(amount + prices[letter], capacity)
        if amount < 0:
            return -1
    return amount
