"""Numbering what is reached, in the order in which it is first reached."""


class Places:
    """Places that have been reached: `order` has them, and `numbers` has the index of each one."""

    def __init__(self):
        self.order = []
        self.numbers = {}

    def number_of(self, place):
        """The number of a place, a new one if it is new."""
        if place not in self.numbers:
            self.numbers[place] = len(self.order)
            self.order.append(place)
        return self.numbers[place]

    def waits(self, rows):
        """Whether a place has no row yet, if rows has those of the first places."""
        return len(rows) < len(self.order)

    def first_without(self, rows):
        """The first place that has no row yet."""
        return self.order[len(rows)]


def ascends(numbers, count):
    """Whether some integers ascend strictly and are all from 0 to count - 1."""
    before = -1
    for number in numbers:
        if number <= before or number >= count:
            return False
        before = number
    return True
