"""The calls that need no state: on numbers of the ring, and on circuits alone."""

from exactqubits.amplitudes import TooFine
from exactqubits.circuits import MOST_BYTES, MOST_GATES, Fault, circuit_read
from exactqubits.comparing import likeness, outcomes
from exactqubits.omega import (
    ZERO, added, conjugate, depth_of, lessened, lowest, product, rotated, sign_of, size_of, times_root,
)
from exactqubits.refusals import FAULTY, NEVER, NO_SUCH, SECOND_FAULTY, TOO_FINE, TOO_LARGE, TOO_MANY
from exactqubits.words import word_of

MOST_QUBITS_COMPARED = 3
MOST_GATES_OF_A_FORM = 500


def plus(x0, x1, x2, x3, y0, y1, y2, y3):
    return [0] + list(added((x0, x1, x2, x3), (y0, y1, y2, y3)))


def minus(x0, x1, x2, x3, y0, y1, y2, y3):
    return [0] + list(lessened((x0, x1, x2, x3), (y0, y1, y2, y3)))


def times(x0, x1, x2, x3, y0, y1, y2, y3):
    return [0] + list(product((x0, x1, x2, x3), (y0, y1, y2, y3)))


def turned(x0, x1, x2, x3, j):
    return [0] + list(rotated((x0, x1, x2, x3), j))


def bar(x0, x1, x2, x3):
    return [0] + list(conjugate((x0, x1, x2, x3)))


def raised(x0, x1, x2, x3, k):
    x = (x0, x1, x2, x3)
    for step in range(k):
        x = times_root(x)
    return [0] + list(x)


def lowered(x0, x1, x2, x3, k):
    return [0] + list(lowest([(x0, x1, x2, x3)], k)[0][0])


def depth(x0, x1, x2, x3):
    x = (x0, x1, x2, x3)
    # 0 can be divided without end.
    if x == ZERO:
        return [NEVER]
    return [0, depth_of(x)]


def size(x0, x1, x2, x3):
    return [0] + list(size_of((x0, x1, x2, x3)))


def sign(u, v):
    return [0, sign_of(u, v)]


def equal(n, a, b):
    if n > MOST_QUBITS_COMPARED:
        return [NO_SUCH]
    if max(len(a), len(b)) > MOST_BYTES:
        return [TOO_LARGE]
    try:
        left = circuit_read(a, n)
    except Fault as fault:
        return [FAULTY, fault.place]
    try:
        right = circuit_read(b, n)
    except Fault as fault:
        return [SECOND_FAULTY, fault.place]
    if max(left.total, right.total) > MOST_GATES:
        return [TOO_MANY]
    try:
        return [0, likeness(outcomes(n, left.gates), outcomes(n, right.gates))]
    except TooFine:
        return [TOO_FINE]


def form(text):
    if len(text) > MOST_BYTES:
        return [TOO_LARGE]
    try:
        circuit = circuit_read(text, 1)
    except Fault as fault:
        return [FAULTY, fault.place]
    if circuit.total > MOST_GATES_OF_A_FORM:
        return [TOO_MANY]
    return [0] + [ord(letter) for letter in word_of(circuit.gates)]
