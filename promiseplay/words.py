"""Words without end, written as lassos."""

from math import lcm

from promiseplay.errors import EmptyLoop, InvalidLetter, InvalidTurn


def make_lasso(head, loop):
    """The normal form of the lasso with this head and loop."""
    if len(loop) == 0:
        raise EmptyLoop("the loop has no letter")
    if min(loop) < 0 or min(head, default=0) < 0:
        raise InvalidLetter("a letter is negative")
    return normal_lasso(head, loop)


def normal_lasso(head, loop):
    """The normal form of a lasso whose letters are known to be letters."""
    root = tuple(loop[:root_length(loop)])
    size = len(root)
    kept = len(head)
    moved = 0
    # A head that ends like the loop only delays the loop: the loop can begin earlier.
    while kept > 0 and head[kept - 1] == root[(size - 1 - moved) % size]:
        kept -= 1
        moved += 1
    cut = size - moved % size
    return tuple(head[:kept]), root[cut:] + root[:cut]


def root_length(loop):
    """The length of the shortest word of which the loop is a power."""
    size = len(loop)
    # borders[k] is the length of the longest proper border of the first k + 1 letters.
    borders = [0] * size
    border = 0
    for k in range(1, size):
        while border > 0 and loop[k] != loop[border]:
            border = borders[border - 1]
        if loop[k] == loop[border]:
            border += 1
        borders[k] = border
    period = size - borders[size - 1]
    return period if size % period == 0 else size


def letter_at(lasso, turn):
    """The letter of the word at a turn."""
    if turn < 0:
        raise InvalidTurn("the turn is negative")
    head, loop = lasso
    if turn < len(head):
        return head[turn]
    return loop[(turn - len(head)) % len(loop)]


def suffix(lasso, turns):
    """The lasso of the word without its first letters, as many as turns says."""
    if turns < 0:
        raise InvalidTurn("the number of turns is negative")
    head, loop = lasso
    if turns <= len(head):
        return normal_lasso(head[turns:], loop)
    cut = (turns - len(head)) % len(loop)
    return normal_lasso((), loop[cut:] + loop[:cut])


def relabel(lasso, table):
    """The lasso of the word in which each letter a is replaced by table[a]."""
    head, loop = lasso
    check_letters(lasso, len(table))
    return normal_lasso([table[letter] for letter in head], [table[letter] for letter in loop])


def check_letters(lasso, letters):
    """Raise InvalidLetter if a letter of the lasso is not below a number of letters."""
    head, loop = lasso
    if max(loop) >= letters or max(head, default=0) >= letters:
        raise InvalidLetter("a letter of the lasso is too great")


def combine(first, second, size):
    """The lasso of the first word plus size times the second word, turn by turn."""
    start = max(len(first[0]), len(second[0]))
    period = lcm(len(first[1]), len(second[1]))
    letters = [letter_at(first, turn) + size * letter_at(second, turn) for turn in range(start + period)]
    return normal_lasso(letters[:start], letters[start:])


def first_difference(first, second):
    """The first turn at which two words differ, or None if they are the same word."""
    last = max(len(first[0]), len(second[0])) + len(first[1]) + len(second[1])
    for turn in range(last):
        if letter_at(first, turn) != letter_at(second, turn):
            return turn
    return None
