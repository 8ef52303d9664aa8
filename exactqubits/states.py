"""The calls 11 to 25 on four states, answered one behind another."""

from exactqubits.amplitudes import TooFine, basis_state, has_qubits
from exactqubits.circuits import MOST_BYTES, MOST_GATES, Fault, circuit_read
from exactqubits.gates import GATE_KINDS, all_done, gate_done
from exactqubits.measures import inner_product, mean, proportional, weight
from exactqubits.omega import ZERO
from exactqubits.parts import joined, kept, rank_by, rearranged, shown
from exactqubits.refusals import FAULTY, NEVER, NO_SUCH, NOT_BEGUN, TOO_FINE, TOO_LARGE, TOO_MANY

MOST_QUBITS = 6

# How many whole numbers each call has ahead of its row, if it has one.
SIZES = {
    11: 2, 12: 1, 13: 4, 14: 1, 15: 2, 16: 1, 17: 3, 18: 3, 19: 3, 20: 2, 21: 2, 22: 2, 23: 1, 24: 2, 25: 2,
}
WITH_ROW = (14, 23)
BEGINNING = 11
OF_TWO_STATES = (22, 24, 25)


def begin(book, given):
    if given[0] >= len(book) or given[1] > MOST_QUBITS:
        return [NO_SUCH]
    book[given[0]] = basis_state(given[1], 0)
    return [0]


def tell_qubits(book, given):
    return [0, book[given[0]].qubits]


def do_gate(book, given):
    state = book[given[0]]
    g = given[1]
    q = given[2]
    controls = given[3]
    if g >= GATE_KINDS or q >= state.qubits:
        return [NO_SUCH]
    if not has_qubits(state, controls) or (controls >> q) & 1:
        return [NO_SUCH]
    book[given[0]] = gate_done(state, g, q, controls)
    return [0]


def run_circuit(book, given):
    state = book[given[0]]
    text = given[1]
    if len(text) > MOST_BYTES:
        return [TOO_LARGE]
    circuit = circuit_read(text, state.qubits)
    if circuit.total > MOST_GATES:
        return [TOO_MANY]
    book[given[0]] = all_done(state, circuit.gates)
    return [0]


def tell_amplitude(book, given):
    amps = book[given[0]].amps
    return [0] + list(amps[given[1]] if given[1] < len(amps) else ZERO)


def tell_level(book, given):
    return [0, book[given[0]].level]


def tell_weight(book, given):
    return [0] + weight(book[given[0]], given[1], given[2])


def look(book, given):
    state = book[given[0]]
    if given[1] >= state.qubits or given[2] > 1:
        return [NO_SUCH]
    after = shown(state, given[1], given[2])
    if after is None:
        return [NEVER]
    book[given[0]] = after
    return [0]


def tell_mean(book, given):
    state = book[given[0]]
    if not has_qubits(state, given[1] | given[2]):
        return [NO_SUCH]
    return [0] + mean(state, given[1], given[2])


def tell_rank(book, given):
    state = book[given[0]]
    if not has_qubits(state, given[1]):
        return [NO_SUCH]
    return [0, rank_by(state, given[1])]


def keep(book, given):
    state = book[given[0]]
    if not has_qubits(state, given[1]):
        return [NO_SUCH]
    if rank_by(state, given[1]) != 1:
        return [TOO_MANY]
    book[given[0]] = kept(state, given[1])
    return [0]


def put_beside(book, given):
    left = book[given[0]]
    right = book[given[1]]
    if left.qubits + right.qubits > MOST_QUBITS:
        return [TOO_LARGE]
    book[given[0]] = joined(left, right)
    return [0]


def move(book, given):
    state = book[given[0]]
    if sorted(given[1]) != list(range(state.qubits)):
        return [NO_SUCH]
    book[given[0]] = rearranged(state, given[1])
    return [0]


def tell_same(book, given):
    left = book[given[0]]
    right = book[given[1]]
    if left.qubits != right.qubits:
        return [TOO_LARGE]
    return [0, 1 if proportional(left, right) else 0]


def tell_inner(book, given):
    left = book[given[0]]
    right = book[given[1]]
    if left.qubits != right.qubits:
        return [TOO_LARGE]
    return [0] + inner_product(left, right)


CALLS = {
    11: begin, 12: tell_qubits, 13: do_gate, 14: run_circuit, 15: tell_amplitude, 16: tell_level,
    17: tell_weight, 18: look, 19: tell_mean, 20: tell_rank, 21: keep, 22: put_beside, 23: move,
    24: tell_same, 25: tell_inner,
}


def all_begun(book, number, given):
    """Whether each state that the call names is begun; the call that begins one needs none."""
    if number == BEGINNING:
        return True
    named = given[:2] if number in OF_TWO_STATES else given[:1]
    return all([o < len(book) and book[o] is not None for o in named])


def answer(book, number, given):
    if not all_begun(book, number, given):
        return [NOT_BEGUN]
    call = CALLS[number]
    try:
        return call(book, given)
    except TooFine:
        return [TOO_FINE]
    except Fault as fault:
        return [FAULTY, fault.place]


def answers(calls):
    book = [None, None, None, None]
    told = []
    at = 0
    while at < len(calls):
        number = calls[at]
        end = at + 1 + SIZES[number]
        given = calls[at + 1:end]
        if number in WITH_ROW:
            start = end + 1
            end = start + calls[start - 1]
            given.append(calls[start:end])
        one = answer(book, number, given)
        told.append(len(one))
        told.extend(one)
        at = end
    return told
