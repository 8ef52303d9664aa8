"""The calls as lists of numbers, and the answers taken apart."""

import unittest

from exactqubits.states import answers

LIMIT = 2 ** 56
TOP = 2 ** 32 - 1


def begin(o, n):
    return [11, o, n]


def qubits(o):
    return [12, o]


def gate(o, g, q, controls=0):
    return [13, o, g, q, controls]


def data_of(text):
    return list(text.encode("ascii")) if isinstance(text, str) else list(text)


def run(o, text):
    data = data_of(text)
    return [14, o, len(data)] + data


def amp(o, i):
    return [15, o, i]


def level(o):
    return [16, o]


def weight(o, mask, value):
    return [17, o, mask, value]


def look(o, q, b):
    return [18, o, q, b]


def sure(o, xs, zs):
    return [19, o, xs, zs]


def rank(o, mask):
    return [20, o, mask]


def keep(o, mask):
    return [21, o, mask]


def beside(o, p):
    return [22, o, p]


def moved(o, to):
    return [23, o, len(to)] + list(to)


def same(o, p):
    return [24, o, p]


def inner(o, p):
    return [25, o, p]


def taken_apart(flat):
    parts = []
    at = 0
    while at < len(flat):
        parts.append(flat[at + 1:at + 1 + flat[at]])
        at += 1 + flat[at]
    return parts


def ask(calls):
    """The answers to calls, within what may be handed in at once."""
    line = [number for call in calls for number in call]
    if len(calls) > 300 or len(line) > 30000:
        raise AssertionError("more than may be handed in")
    parts = taken_apart(answers(line))
    if len(parts) != len(calls):
        raise AssertionError("not one answer for each call")
    return parts


def picture_calls(o, n):
    return [qubits(o), level(o)] + [amp(o, i) for i in range(2 ** n)]


def picture_of(parts):
    return (parts[0][1], parts[1][1], [tuple(part[1:]) for part in parts[2:]])


def picture(calls, o, n):
    """State o of n qubits after the calls: how many qubits, level, numbers."""
    parts = ask(calls + picture_calls(o, n))
    return picture_of(parts[len(calls):])


def root_power(m):
    """root 2 to the power m, as a, b, c, d."""
    half = 2 ** (m // 2)
    return (half, 0, 0, 0) if m % 2 == 0 else (0, half, 0, -half)


def shrunk(m, o=0):
    """Calls after which state o, of one qubit, has root 2 to the m and 1, at level m + 1."""
    calls = [begin(o, 6), run(o, "h0")]
    for start in range(0, m, 5):
        helpers = range(1, min(6, m - start + 1))
        calls.append(run(o, ";".join(f"h{q}?0" for q in helpers)))
        calls.extend(look(o, q, 0) for q in helpers)
    return calls + [keep(o, 1)]


class CallsTest(unittest.TestCase):
    def check(self, calls, last):
        """The last call is answered so."""
        self.assertEqual(ask(calls)[-1], last)

    def check_refused(self, calls, call, refusal):
        """After the calls, this call is refused so, and all four states are as they were."""
        parts = ask(calls + [qubits(o) for o in range(4)])
        sizes = [part[1] if part[0] == 0 else 0 for part in parts[-4:]]
        look_over = [c for o in range(4) for c in picture_calls(o, sizes[o])]
        parts = ask(calls + look_over + [call] + look_over)
        before = parts[len(calls):len(calls) + len(look_over)]
        self.assertEqual(parts[len(calls) + len(look_over)], refusal)
        self.assertEqual(parts[-len(look_over):], before)
