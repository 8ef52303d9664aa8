"""A state of some qubits in its one form."""

from exactqubits.omega import ONE, ZERO, lowest

# 2^56
MOST_COORDINATE = 72057594037927936


class TooFine(Exception):
    """A coordinate of the one form would be out of bounds."""


class State:
    """Amplitude i is amps[i] divided by root 2, level times. Nothing in it is changed once it is made."""

    def __init__(self, qubits, level, amps):
        self.qubits = qubits
        self.level = level
        self.amps = amps


def basis_state(qubits, i):
    """The state whose amplitude i is 1, all others 0."""
    amps = [ZERO] * (1 << qubits)
    amps[i] = ONE
    return State(qubits, 0, amps)


def one_form(qubits, level, amps):
    """The state with these amplitudes at the least level."""
    least = lowest(amps, level)
    check_fineness(least[0])
    return State(qubits, least[1], least[0])


def check_fineness(amps):
    for z in amps:
        if max(z) > MOST_COORDINATE or min(z) < -MOST_COORDINATE:
            raise TooFine()


def has_qubits(state, bits):
    """Whether a set of qubits, as bits, holds the state's qubits alone."""
    return bits >> state.qubits == 0


def ones_in(bits):
    """How many of the bits are 1."""
    ones = 0
    while bits > 0:
        ones += bits & 1
        bits >>= 1
    return ones
