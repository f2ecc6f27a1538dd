"""Which states of judges accept all words that others accept.

rows and ranks have an entry for each state and each letter. A guess is a pair of a
state and an even rank: it accepts a word if no greater rank occurs on it from the state
on, and this rank occurs again and again.
"""

from promiseplay.graphs import components, reached, reversed_edges


def marked_nodes(edges):
    """The nodes in components with an edge that has a first mark, and one that has a second mark.

    edges has for each node triples of a target and both marks.
    """
    component = components([[target for target, _, _ in row] for row in edges])
    first = {}
    second = {}
    for node, row in enumerate(edges):
        for target, one, other in row:
            if component[target] == component[node]:
                if one:
                    first[component[node]] = True
                if other:
                    second[component[node]] = True
    return [node for node, number in enumerate(component) if number in first and number in second]


def ranks_with(ranks, parity):
    """The ascending list of the even ranks (parity 0), or of the odd ones (1)."""
    return sorted(list({rank: True for told in ranks for rank in told if rank % 2 == parity}))


def contained_states(rows, ranks):
    """For each two states whether each word that is accepted from the first is accepted from the second."""
    count = len(rows)
    pairs = [(one, other) for one in range(count) for other in range(count)]
    letters = range(len(rows[0]))
    edges = []
    for one, other in pairs:
        edges.append([(rows[one][k] * count + rows[other][k], ranks[one][k], ranks[other][k]) for k in letters])
    wrong = {}
    for even in ranks_with(ranks, 0):
        for odd in ranks_with(ranks, 1):
            inner = []
            for row in edges:
                inner.append([(target, one == even, other == odd) for target, one, other in row
                              if one <= even and other <= odd])
            for node in marked_nodes(inner):
                wrong[node] = True
    found = reached(reversed_edges([[target for target, _, _ in row] for row in edges]), list(wrong))
    return [[not found[one * count + other] for other in range(count)] for one in range(count)]


def contained_guesses(rows, ranks, most, limit):
    """For each two states whether each word that a guess of a rank accepts from the first is accepted from the second.

    There it must be accepted by the guess of another rank, the limit.
    """
    count = len(rows)
    # The number of no state stands for the second guess having failed.
    size = count + 1
    edges = []
    inner = []
    for one in range(count):
        for other in range(size):
            row = []
            quiet = []
            for k, rank in enumerate(ranks[one]):
                if rank <= most:
                    told = limit + 1 if other == count else ranks[other][k]
                    target = rows[one][k] * size + (count if told > limit else rows[other][k])
                    row.append(target)
                    if told != limit:
                        quiet.append((target, rank == most, True))
            edges.append(row)
            inner.append(quiet)
    found = reached(reversed_edges(edges), marked_nodes(inner))
    return [[not found[one * size + other] for other in range(count)] for one in range(count)]


def hopeful_states(rows, ranks, most, left_out):
    """Of each state whether a guess of a rank accepts a word from there whose run stays out of some states."""
    edges = []
    for state, row in enumerate(rows):
        edges.append([(target, ranks[state][k] == most, not left_out[state]) for k, target in enumerate(row)
                      if ranks[state][k] <= most])
    back = reversed_edges([[target for target, _, _ in row] for row in edges])
    return reached(back, marked_nodes(edges))
