"""The coarsest partition of states that looks alike from each state of a part."""

from promiseplay.places import Places


class Partition:
    """A partition of the states of a table with one successor for each letter.

    `blocks` has the lists of states that are not told apart yet, `block_of` the
    index of the block of each state. A block is waiting while other blocks may have
    to be divided by whether their successors lie in it.
    """

    def __init__(self, labels, rows):
        self.block_of = []
        self.blocks = []
        numbers = {}
        for state, label in enumerate(labels):
            if label not in numbers:
                numbers[label] = len(self.blocks)
                self.blocks.append([])
            self.block_of.append(numbers[label])
            self.blocks[numbers[label]].append(state)
        self.sources = sources_of(rows)
        self.waiting = list(range(len(self.blocks)))

    def refine(self):
        """Divide blocks until the states of each one lead to the same blocks."""
        while self.waiting:
            members = list(self.blocks[self.waiting.pop()])
            for sources in self.sources:
                self.divide_by(members, sources)

    def divide_by(self, members, sources):
        """Divide all blocks by whether a letter leads to one of some members."""
        hit = {}
        for target in members:
            for state in sources[target]:
                hit.setdefault(self.block_of[state], []).append(state)
        for number in hit:
            if len(hit[number]) < len(self.blocks[number]):
                self.divide(number, hit[number])

    def divide(self, number, inside):
        """Make two blocks of one; the smaller part becomes the new one."""
        chosen = {state: True for state in inside}
        outside = [state for state in self.blocks[number] if state not in chosen]
        larger, smaller = (inside, outside) if len(inside) > len(outside) else (outside, inside)
        self.blocks[number] = larger
        for state in smaller:
            self.block_of[state] = len(self.blocks)
        self.waiting.append(len(self.blocks))
        self.blocks.append(smaller)


def sources_of(rows):
    """For each letter the list with the states that it leads to each state."""
    sources = []
    for letter in range(len(rows[0])):
        back = [[] for _ in rows]
        for state, row in enumerate(rows):
            back[row[letter]].append(state)
        sources.append(back)
    return sources


def coarsest(labels, rows):
    """The number of the class of each state: a class has one label and leads to one class by each letter."""
    partition = Partition(labels, rows)
    partition.refine()
    return partition.block_of


def merged_table(start, labels, rows):
    """One state for each class of states that can be reached from the start, and the classes in their order.

    Returns the list of one state of each class, in the order in which the classes are
    first reached, and the rows with the numbers of these classes.
    """
    classes = coarsest(labels, rows)
    members = {}
    for state, number in enumerate(classes):
        members[number] = state
    places = Places()
    places.number_of(classes[start])
    table = []
    while places.waits(table):
        state = members[places.first_without(table)]
        table.append([places.number_of(classes[target]) for target in rows[state]])
    return [members[number] for number in places.order], table
