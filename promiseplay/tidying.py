"""Circuits without needless gates and latches."""

from promiseplay.circuits import Circuit
from promiseplay.gates import ONE, ZERO, Gates


def used_nodes(circuit, fixed):
    """The list that tells of each node whether it is used; nothing is used by fixed latches, which a dict has."""
    gate_start = 1 + circuit.wires + len(circuit.starts)
    used = [False] * (gate_start + len(circuit.gates))
    waiting = [literal // 2 for literal in circuit.outs]
    while waiting:
        node = waiting.pop()
        if used[node]:
            continue
        used[node] = True
        latch = node - 1 - circuit.wires
        if node >= gate_start:
            waiting.extend([literal // 2 for literal in circuit.gates[node - gate_start]])
        elif latch >= 0 and latch not in fixed:
            waiting.append(circuit.nexts[latch] // 2)
    return used


def is_tidy(circuit):
    """Whether a circuit is tidy."""
    if not all(used_nodes(circuit, {})[1 + circuit.wires:]):
        return False
    known = {}
    for first, second in circuit.gates:
        if first >= second or first // 2 == second // 2 or first // 2 == 0 or (first, second) in known:
            return False
        known[(first, second)] = True
    return not any([start == later for start, later in zip(circuit.starts, circuit.nexts)])


def tidied(circuit):
    """A tidy circuit that emits the same letters, with no more gates and no more latches."""
    while True:
        found = tidied_once(circuit)
        # If nothing became less, all gates and latches were needed.
        if len(found.gates) == len(circuit.gates) and len(found.starts) == len(circuit.starts):
            return found
        circuit = found


def fixed_latches(circuit):
    """The latches that always have their starts, with the literals of these."""
    fixed = {}
    for latch, start in enumerate(circuit.starts):
        own = 2 * (1 + circuit.wires + latch)
        if circuit.nexts[latch] in (start, own):
            fixed[latch] = ONE if start == 1 else ZERO
    return fixed


def tidied_once(circuit):
    """A circuit without what is seen at once to be needless; more may be seen then."""
    fixed = fixed_latches(circuit)
    used = used_nodes(circuit, fixed)
    kept = []
    literals = [2 * node for node in range(1 + circuit.wires)]
    for latch in range(len(circuit.starts)):
        if latch in fixed:
            literals.append(fixed[latch])
        elif used[1 + circuit.wires + latch]:
            literals.append(2 * (1 + circuit.wires + len(kept)))
            kept.append(latch)
        else:
            literals.append(ZERO)
    gates = Gates(1 + circuit.wires + len(kept))
    gate_start = len(literals)
    for number, (first, second) in enumerate(circuit.gates):
        if used[gate_start + number]:
            literals.append(gates.both(moved(literals, first), moved(literals, second)))
        else:
            literals.append(ZERO)
    nexts = [moved(literals, circuit.nexts[latch]) for latch in kept]
    outs = [moved(literals, out) for out in circuit.outs]
    return Circuit(circuit.wires, [circuit.starts[latch] for latch in kept], gates.row, nexts, outs)


def moved(literals, literal):
    """The literal in place of another one; literals has those in place of the nodes."""
    return literals[literal // 2] ^ (literal % 2)
