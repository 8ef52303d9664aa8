"""Whether two circuits do the same with every state."""

from exactqubits.amplitudes import basis_state
from exactqubits.gates import all_done
from exactqubits.omega import rotated

FULL_TURN = 8


def outcomes(qubits, gates):
    """What the gates make of each state of one amplitude 1 and all others 0; every state is a sum of these."""
    return [all_done(basis_state(qubits, i), gates) for i in range(1 << qubits)]


def likeness(left, right):
    """Of two circuits' outcomes: 2 if they are the same, 1 if but for one factor, else 0."""
    # Gates keep the weight of all, so a factor's size is 1; of numbers divided by root 2, however often, only the
    # powers of w have that size.
    for j in range(FULL_TURN):
        if all_turned(left, right, j):
            return 2 if j == 0 else 1
    return 0


def all_turned(left, right, j):
    """Whether each state on the left is the one on the right turned by j."""
    # Turning keeps the one form, so levels are held against each other as they are.
    for x, y in zip(left, right):
        if x.level != y.level or x.amps != [rotated(z, j) for z in y.amps]:
            return False
    return True
