"""Calls 15 amp, 16 level, 17 weight, 19 sure, 24 same and 25 inner."""

import random

from tests.model import Model
from tests.support import (
    LIMIT, TOP, CallsTest, amp, ask, begin, beside, gate, inner, keep, level, look, picture, run, same, shrunk, sure,
    weight,
)
from tests.texts import random_circuit


def random_pair(chance, n):
    """Calls that leave a state, and the model's state."""
    while True:
        text, gates = random_circuit(chance, n, 2)
        model = Model(n)
        for step in gates[:60]:
            model.gate(*step)
        if len(gates) <= 60:
            return text, model


class AmpTest(CallsTest):
    def test_numbers(self):
        ready = [begin(0, 2), run(0, "h0;t0;h0")]
        self.assertEqual(ask(ready + [amp(0, i) for i in range(4)])[2:],
                         [[0, 1, 1, 0, 0], [0, 1, -1, 0, 0], [0, 0, 0, 0, 0], [0, 0, 0, 0, 0]])

    def test_none_there(self):
        for n in range(7):
            for i in (2 ** n, 2 ** n + 1, 64, TOP):
                self.check([begin(0, n)] + [run(0, f"h{q}") for q in range(n)] + [amp(0, i)], [0, 0, 0, 0, 0])

    def test_no_qubits(self):
        self.check([begin(0, 0), amp(0, 0)], [0, 1, 0, 0, 0])

    def test_last_one(self):
        self.check([begin(3, 6), run(3, "x0;x1;x2;x3;x4;x5;t5"), amp(3, 63)], [0, 0, 1, 0, 0])


class LevelTest(CallsTest):
    def test_levels(self):
        for text, k in (("", 0), ("h0", 1), ("h0;h1", 2), ("h0;h0", 0), ("h0;t0;h0", 2), ("h0;s0;h0", 1),
                        ("h0;h1;h2;h3;h4;h5", 6), ("h0;x1?0;h0", 2), ("h0;h1?0", 2)):
            self.check([begin(0, 6), run(0, text), level(0)], [0, k])

    def test_least_level_though_numbers_are_multiples_of_root_two(self):
        # s h s h s is h but for a factor w: its numbers at level 2 would be multiples of root 2.
        self.check([begin(0, 1), run(0, "s0;h0;s0;h0;s0"), level(0)], [0, 1])


class WeightTest(CallsTest):
    def test_weights(self):
        ready = [begin(0, 2), run(0, "h0;t0;h0;h1?0")]
        self.assertEqual(picture(ready, 0, 2)[1], 3)
        for mask, value, told in ((0, 0, [8, 0]), (1, 0, [4, 2]), (1, 1, [4, -2]), (2, 0, [6, 1]), (2, 2, [2, -1]),
                                  (3, 0, [4, 2]), (3, 1, [2, -1]), (3, 2, [0, 0]), (3, 3, [2, -1])):
            self.check(ready + [weight(0, mask, value)], [0] + told)

    def test_none_there(self):
        ready = [begin(0, 2), run(0, "h0;h1")]
        for mask, value in ((0, 1), (1, 2), (2, 1), (2, 3), (4, 4), (TOP, 4), (TOP, TOP), (0, TOP), (TOP - 1, 1)):
            self.check(ready + [weight(0, mask, value)], [0, 0, 0])

    def test_mask_beyond_the_qubits(self):
        ready = [begin(0, 2), run(0, "h0;h1")]
        for mask, value, u in ((TOP, 0, 1), (TOP, 3, 1), (TOP - 1, 2, 2), (TOP - 3, 0, 4), (4, 0, 4), (5, 1, 2)):
            self.check(ready + [weight(0, mask, value)], [0, u, 0])

    def test_no_qubits(self):
        self.assertEqual(ask([begin(0, 0), weight(0, 0, 0), weight(0, TOP, 0), weight(0, 0, 1)])[1:],
                         [[0, 1, 0], [0, 1, 0], [0, 0, 0]])

    def test_large_numbers(self):
        self.check(shrunk(113) + [weight(0, 0, 0)], [0, 2 ** 113 + 1, 0])
        self.check(shrunk(112) + [run(0, "t0"), weight(0, 1, 0)], [0, LIMIT * LIMIT, 0])

    def test_against_the_model(self):
        chance = random.Random(31)
        for turn in range(40):
            n = chance.randint(1, 4)
            text, model = random_pair(chance, n)
            for again in range(4):
                mask = chance.randrange(2 ** n)
                value = chance.randrange(2 ** n) & mask
                self.check([begin(0, n), run(0, text), weight(0, mask, value)], [0] + model.weight(mask, value))


class SureTest(CallsTest):
    def test_one_qubit(self):
        for text, means in (
            ("", [[1, 0], [0, 0], [1, 0], [0, 0]]), ("x0", [[1, 0], [0, 0], [-1, 0], [0, 0]]),
            ("h0", [[2, 0], [2, 0], [0, 0], [0, 0]]), ("x0;h0", [[2, 0], [-2, 0], [0, 0], [0, 0]]),
            ("h0;s0", [[2, 0], [0, 0], [0, 0], [2, 0]]), ("h0;s'0", [[2, 0], [0, 0], [0, 0], [-2, 0]]),
            ("h0;t0", [[2, 0], [0, 1], [0, 0], [0, 1]]), ("h0;t0;h0", [[4, 0], [0, 0], [0, 2], [0, -2]]),
        ):
            calls = [begin(0, 1), run(0, text), sure(0, 0, 0), sure(0, 1, 0), sure(0, 0, 1), sure(0, 1, 1)]
            self.assertEqual([part[1:] for part in ask(calls)[2:]], means, text)

    def test_pair_that_hangs_together(self):
        ready = [begin(0, 2), run(0, "h0;x1?0")]
        for xs, zs, told in ((3, 0, [2, 0]), (0, 3, [2, 0]), (3, 3, [-2, 0]), (1, 0, [0, 0]), (0, 1, [0, 0]), (3, 1, [0, 0])):
            self.check(ready + [sure(0, xs, zs)], [0] + told)

    def test_no_qubits(self):
        self.check([begin(0, 0), sure(0, 0, 0)], [0, 1, 0])

    def test_refused(self):
        before = [begin(0, 2), run(0, "h0"), begin(1, 0), begin(2, 6)]
        for call in (sure(0, 4, 0), sure(0, 0, 4), sure(0, 7, 3), sure(0, TOP, TOP), sure(0, 0, 2 ** 31), sure(1, 1, 0),
                     sure(1, 0, 1), sure(2, 64, 0), sure(2, 63, 64)):
            self.check_refused(before, call, [-1])
        self.check(before + [sure(2, 63, 63)], [0, 0, 0])

    def test_against_the_model(self):
        chance = random.Random(32)
        for turn in range(60):
            n = chance.randint(1, 4)
            text, model = random_pair(chance, n)
            for again in range(4):
                xs = chance.randrange(2 ** n)
                zs = chance.randrange(2 ** n)
                self.check([begin(0, n), run(0, text), sure(0, xs, zs)], [0] + model.mean(xs, zs))


class SameTest(CallsTest):
    def check_same(self, n, left, right, told):
        ready = [begin(0, n), begin(1, n), run(0, left), run(1, right)]
        self.check(ready + [same(0, 1)], [0, told])
        self.check(ready + [same(1, 0)], [0, told])

    def test_same(self):
        self.check_same(1, "h0", "h0", 1)
        self.check_same(1, "h0;x0", "h0", 1)
        self.check_same(1, "s0;h0;s0", "h0;s'0;h0", 1)
        self.check_same(1, "x0;t0", "x0", 1)
        self.check_same(2, "h0;x1?0", "h1;x0?1", 1)

    def test_not_same(self):
        self.check_same(1, "", "x0", 0)
        self.check_same(1, "h0", "", 0)
        self.check_same(1, "h0", "x0;h0", 0)
        self.check_same(1, "h0;t0", "h0", 0)
        self.check_same(2, "h0", "h1", 0)
        self.check_same(2, "h0;h1", "h0;h1;z0?1", 0)

    def test_factor_of_another_size(self):
        # A look doesn't scale up, so these differ by a factor that's no unit.
        calls = [begin(0, 1), begin(1, 1), run(0, "h0;t0;h0"), look(0, 0, 0), same(0, 1), same(1, 0)]
        self.assertEqual(ask(calls)[-2:], [[0, 1], [0, 1]])

    def test_factor_that_is_a_quotient(self):
        shrink = "h0;t0;h0", "h0;t0;t0;t0;h0"
        calls = [begin(0, 2), begin(1, 2)]
        for o, text in enumerate(shrink):
            calls += [run(o, text), look(o, 0, 0), run(o, "h1;t1;h1;h0")]
        self.check(calls + [same(0, 1)], [0, 1])
        self.check(calls + [gate(1, 6, 1), same(0, 1)], [0, 0])

    def test_with_itself_and_without_qubits(self):
        self.check([begin(2, 3), run(2, "h0;t0;h0;h1?0"), same(2, 2)], [0, 1])
        self.check([begin(0, 0), begin(1, 1), run(1, "h0;t0;h0"), look(1, 0, 1), keep(1, 0), same(0, 1)], [0, 1])

    def test_nearly_same_at_the_limit(self):
        calls = shrunk(112, 0) + shrunk(110, 1)
        self.check(calls + [same(0, 1)], [0, 0])
        self.check(calls + [same(0, 0)], [0, 1])

    def test_refused(self):
        before = [begin(0, 2), begin(1, 3), begin(2, 0)]
        for o, p in ((0, 1), (1, 0), (2, 0), (1, 2)):
            self.check_refused(before, same(o, p), [-2])
            self.check_refused(before, inner(o, p), [-2])

    def test_against_the_model(self):
        chance = random.Random(33)
        for turn in range(60):
            n = chance.randint(1, 2)
            left, one = random_pair(chance, n)
            right, other = random_pair(chance, n)
            self.check_same(n, left, right, one.same(other))
            self.check_same(n, left, left + ";(x0;t0)^2", 1)


class InnerTest(CallsTest):
    def test_numbers(self):
        ready = [begin(0, 1), begin(1, 1), run(0, "h0;t0"), run(1, "h0;s0")]
        self.check(ready + [inner(0, 1)], [0, 1, 1, 0, 0])
        self.check(ready + [inner(1, 0)], [0, 1, 0, 0, -1])
        self.check(ready + [inner(0, 0)], [0, 2, 0, 0, 0])
        self.check([begin(0, 1), begin(1, 1), run(1, "x0"), inner(0, 1)], [0, 0, 0, 0, 0])

    def test_no_qubits(self):
        self.check([begin(0, 0), begin(1, 0), inner(0, 1)], [0, 1, 0, 0, 0])

    def test_large_numbers(self):
        ready = shrunk(112, 0) + shrunk(113, 1)
        self.check(ready + [inner(0, 1)], [0, 1, LIMIT * LIMIT, 0, -LIMIT * LIMIT])
        wide = shrunk(56, 0) + [beside(0, 0), inner(0, 0)]
        self.check(wide, [0, 2 ** 112 + 2 * 2 ** 56 + 1, 0, 0, 0])

    def test_against_the_model(self):
        chance = random.Random(34)
        for turn in range(60):
            n = chance.randint(1, 4)
            left, one = random_pair(chance, n)
            right, other = random_pair(chance, n)
            ready = [begin(0, n), begin(1, n), run(0, left), run(1, right)]
            self.check(ready + [inner(0, 1)], [0] + one.inner(other))
