"""The gates on one qubit, with controls."""

from exactqubits.amplitudes import State, one_form
from exactqubits.omega import added, lessened, rotated, times_root

GATE_KINDS = 8
X_GATE = 0
Y_GATE = 1
H_GATE = 3
S_GATE = 4
S_BACK_GATE = 5
T_BACK_GATE = 7

# How far the gates that keep each amplitude in its place turn those at which the qubit reads 1.
TURNS = {2: 4, 4: 2, 5: 6, 6: 1, 7: 7}

# The gate that undoes each gate.
UNDOING = (0, 1, 2, 3, 5, 4, 7, 6)


def gate_done(state, g, q, controls):
    bit = 1 << q
    lows = [i for i in range(len(state.amps)) if (i & (bit | controls)) == controls]
    if g == H_GATE:
        return mixed(state, bit, lows, controls)
    # The other gates only change coordinates' places and signs, so the form they leave is the one form.
    if g == X_GATE:
        return swapped(state, bit, lows, 0)
    if g == Y_GATE:
        return swapped(state, bit, lows, 2)
    return turned_ones(state, bit, lows, TURNS[g])


def mixed(state, bit, lows, controls):
    old = state.amps
    # Amplitudes that a control leaves alone are told at the higher level too; without controls there are none.
    amps = [times_root(z) for z in old] if controls else list(old)
    for i in lows:
        amps[i] = added(old[i], old[i + bit])
        amps[i + bit] = lessened(old[i], old[i + bit])
    return one_form(state.qubits, state.level + 1, amps)


def swapped(state, bit, lows, j):
    """What was at 0 goes to 1 turned by j, what was at 1 goes to 0 turned back by j."""
    amps = list(state.amps)
    for i in lows:
        amps[i] = rotated(state.amps[i + bit], -j)
        amps[i + bit] = rotated(state.amps[i], j)
    return State(state.qubits, state.level, amps)


def turned_ones(state, bit, lows, j):
    amps = list(state.amps)
    for i in lows:
        amps[i + bit] = rotated(amps[i + bit], j)
    return State(state.qubits, state.level, amps)


def all_done(state, gates):
    """The state after gates, each as (g, q, controls), done one after another."""
    for gate in gates:
        state = gate_done(state, gate[0], gate[1], gate[2])
    return state


def undone(gates):
    """The gates that undo these."""
    return [(UNDOING[gate[0]], gate[1], gate[2]) for gate in reversed(gates)]
