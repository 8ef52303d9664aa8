"""States made of parts of states, of two states, or of the same qubits in another order."""

from exactqubits.amplitudes import State, ones_in, one_form
from exactqubits.measures import first_filled, rank
from exactqubits.omega import ZERO, product


def shown(state, q, b):
    """The state after a look at qubit q that shows b; None if that can't be."""
    amps = [z if ((i >> q) & 1) == b else ZERO for i, z in enumerate(state.amps)]
    if first_filled(amps) == len(amps):
        return None
    return one_form(state.qubits, state.level, amps)


def readings(state, mask):
    """All that the qubits of mask may read, as indexes at which the others read 0, from the lowest on."""
    return [i for i in range(len(state.amps)) if (i & mask) == i]


def others(state, mask):
    return (len(state.amps) - 1) ^ mask


def picked(state, places, base):
    """The amplitudes at these places, read beside what base reads."""
    return [state.amps[base | place] for place in places]


def rank_by(state, mask):
    columns = readings(state, others(state, mask))
    return rank([picked(state, columns, row) for row in readings(state, mask)])


def kept(state, mask):
    """The state of the qubits of mask alone, where the rank by mask is 1."""
    column = first_filled(state.amps) & others(state, mask)
    amps = picked(state, readings(state, mask), column)
    return one_form(ones_in(mask), state.level, amps)


def joined(left, right):
    """Both states beside one another, the left one's qubits first."""
    amps = []
    for y in right.amps:
        amps.extend([product(x, y) for x in left.amps])
    return one_form(left.qubits + right.qubits, left.level + right.level, amps)


def rearranged(state, to):
    """The state in which qubit q has become qubit to[q]."""
    amps = [ZERO] * len(state.amps)
    for i, z in enumerate(state.amps):
        amps[moved_index(i, to)] = z
    return State(state.qubits, state.level, amps)


def moved_index(i, to):
    return sum([((i >> q) & 1) << place for q, place in enumerate(to)])
