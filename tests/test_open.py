"""Calls 11 and 12, open and qubits; -10; and how answers are given back."""

from exactqubits.states import answers
from tests.support import (
    TOP, CallsTest, amp, ask, begin, beside, gate, inner, keep, level, look, moved, picture, qubits, rank, run, same,
    sure, weight,
)


def calls_on(o):
    """Calls 12 to 25 that name state o alone, each with numbers that would be refused otherwise too."""
    return [
        qubits(o), gate(o, 8, TOP, TOP), run(o, "x" * 5000), run(o, "q"), amp(o, TOP), level(o), weight(o, TOP, TOP),
        look(o, TOP, TOP), sure(o, TOP, TOP), rank(o, TOP), keep(o, TOP), moved(o, [TOP] * 40), moved(o, []),
    ]


def calls_on_two(o, p):
    return [beside(o, p), same(o, p), inner(o, p)]


class OpenTest(CallsTest):
    def test_each_size(self):
        for n in range(7):
            zeros = [(0, 0, 0, 0)] * (2 ** n - 1)
            self.assertEqual(picture([begin(0, n)], 0, n), (n, 0, [(1, 0, 0, 0)] + zeros))

    def test_each_state(self):
        parts = ask([begin(o, o + 1) for o in range(4)] + [qubits(o) for o in range(4)])
        self.assertEqual(parts, [[0]] * 4 + [[0, 1], [0, 2], [0, 3], [0, 4]])

    def test_once_more_begins_anew(self):
        calls = [begin(1, 3), run(1, "h0;t0;h0;x2"), begin(1, 2)]
        self.assertEqual(picture(calls, 1, 2), (2, 0, [(1, 0, 0, 0)] + [(0, 0, 0, 0)] * 3))

    def test_refused(self):
        before = [begin(3, 2), run(3, "h0;x1?0")]
        for o, n in ((4, 0), (4, 6), (TOP, 1), (0, 7), (3, 7), (3, TOP), (4, 7), (TOP, TOP)):
            self.check_refused(before, begin(o, n), [-1])

    def test_refused_state_is_not_begun(self):
        self.assertEqual(ask([begin(0, 7), qubits(0)]), [[-1], [-10]])

    def test_not_begun_comes_before_all_else(self):
        for o in (0, 1, 3, 4, 5, TOP):
            for call in calls_on(o) + calls_on_two(o, 2) + calls_on_two(2, o) + calls_on_two(o, o):
                self.check_refused([begin(2, 6)], call, [-10])

    def test_not_begun_at_a_beginning(self):
        for call in calls_on(0) + calls_on_two(0, 0):
            self.assertEqual(ask([call]), [[-10]])

    def test_states_do_not_know_of_each_other(self):
        calls = [begin(0, 2), begin(1, 2), run(0, "h0;t0;h1?0"), look(0, 0, 1), moved(0, [1, 0]), keep(0, 2)]
        self.assertEqual(picture(calls, 1, 2), (2, 0, [(1, 0, 0, 0)] + [(0, 0, 0, 0)] * 3))


class AnswersTest(CallsTest):
    def test_counts_stand_ahead(self):
        line = begin(0, 1) + gate(0, 3, 0) + amp(0, 1) + level(0) + run(0, "x2") + weight(0, 0, 0) + begin(9, 0)
        self.assertEqual(answers(line), [1, 0, 1, 0, 5, 0, 1, 0, 0, 0, 2, 0, 1, 2, -6, 1, 3, 0, 2, 0, 1, -1])

    def test_handed_in_list_stays(self):
        line = begin(0, 2) + run(0, "h0 ; x1?0") + moved(0, [1, 0]) + keep(0, 3) + beside(0, 0)
        copy = list(line)
        answers(line)
        self.assertEqual(line, copy)

    def test_nothing_is_kept_between_times(self):
        line = begin(0, 2) + run(0, "h0") + level(0) + qubits(1) + begin(1, 1)
        first = answers(line)
        self.assertEqual(answers(line), first)
        self.assertEqual(answers(qubits(0)), [1, -10])

    def test_whole_numbers_alone(self):
        line = begin(0, 1) + begin(1, 1) + same(0, 1) + gate(1, 0, 0) + same(0, 1) + rank(0, 1) + inner(0, 0)
        told = answers(line)
        self.assertIs(type(told), list)
        self.assertTrue(all(type(number) is int for number in told))
        self.assertEqual(told, [1, 0, 1, 0, 2, 0, 1, 1, 0, 2, 0, 0, 2, 0, 1, 5, 0, 1, 0, 0, 0])

    def test_three_hundred_calls(self):
        calls = [begin(0, 6)] + [run(0, "(h0;t1?0;h3)^10") for turn in range(298)] + [qubits(0)]
        self.check(calls, [0, 6])
