"""Call 13, gate."""

import random

from tests.model import Model
from tests.support import LIMIT, TOP, CallsTest, ask, begin, gate, keep, level, picture, root_power, run, shrunk

# What the gates make of 0 and of 1: the level, and the numbers at 0 and 1.
ONE = (1, 0, 0, 0)
NAUGHT = (0, 0, 0, 0)
LESS = (-1, 0, 0, 0)
TABLE = [
    ((0, [NAUGHT, ONE]), (0, [ONE, NAUGHT])),
    ((0, [NAUGHT, (0, 0, 1, 0)]), (0, [(0, 0, -1, 0), NAUGHT])),
    ((0, [ONE, NAUGHT]), (0, [NAUGHT, LESS])),
    ((1, [ONE, ONE]), (1, [ONE, LESS])),
    ((0, [ONE, NAUGHT]), (0, [NAUGHT, (0, 0, 1, 0)])),
    ((0, [ONE, NAUGHT]), (0, [NAUGHT, (0, 0, -1, 0)])),
    ((0, [ONE, NAUGHT]), (0, [NAUGHT, (0, 1, 0, 0)])),
    ((0, [ONE, NAUGHT]), (0, [NAUGHT, (0, 0, 0, -1)])),
]


class GateTest(CallsTest):
    def test_the_table(self):
        for g, (of_zero, of_one) in enumerate(TABLE):
            self.assertEqual(picture([begin(0, 1), gate(0, g, 0)], 0, 1), (1,) + of_zero)
            self.assertEqual(picture([begin(0, 1), gate(0, 0, 0), gate(0, g, 0)], 0, 1), (1,) + of_one)

    def test_answer(self):
        self.check([begin(2, 6), gate(2, 3, 5, 31)], [0])

    def test_qubit_is_the_bit(self):
        for q in range(6):
            told = picture([begin(0, 6), gate(0, 0, q)], 0, 6)[2]
            self.assertEqual([i for i, z in enumerate(told) if z != NAUGHT], [1 << q])

    def test_level_rises_and_falls(self):
        calls = [begin(0, 1)]
        for g in (3, 3, 3, 6, 3, 3, 7, 3):
            calls += [gate(0, g, 0), level(0)]
        told = [part[1] for part in ask(calls) if len(part) == 2]
        self.assertEqual(told, [1, 0, 1, 1, 2, 1, 1, 0])

    def test_level_falls_on_two_qubits(self):
        calls = [begin(0, 2), gate(0, 3, 0), gate(0, 3, 1), level(0), gate(0, 3, 0), level(0)]
        self.assertEqual([part[1] for part in ask(calls) if len(part) == 2], [2, 1])

    def test_controls_all_must_read_one(self):
        for start in range(8):
            calls = [begin(0, 3)] + [gate(0, 0, q) for q in range(3) if start >> q & 1]
            told = picture(calls + [gate(0, 0, 1, 5)], 0, 3)[2]
            end = start ^ 2 if start & 5 == 5 else start
            self.assertEqual([i for i, z in enumerate(told) if z != NAUGHT], [end])

    def test_controlled_mixing_raises_the_others(self):
        calls = [begin(0, 2), gate(0, 3, 0), gate(0, 3, 1, 1)]
        self.assertEqual(picture(calls, 0, 2), (2, 2, [(0, 1, 0, -1), ONE, NAUGHT, ONE]))

    def test_controlled_mixing_where_nothing_is_changes_nothing(self):
        calls = [begin(0, 2), gate(0, 3, 1, 1)]
        self.assertEqual(picture(calls, 0, 2), (2, 0, [ONE, NAUGHT, NAUGHT, NAUGHT]))

    def test_each_gate_with_and_without_controls(self):
        chance = random.Random(5)
        for n in range(1, 4):
            for g in range(8):
                for q in range(n):
                    for controls in (c for c in range(2 ** n) if not c >> q & 1):
                        model = Model(n)
                        calls = [begin(0, n)]
                        for turn in range(8):
                            step = (chance.randrange(8), chance.randrange(n), 0)
                            model.gate(*step)
                            calls.append(gate(0, *step))
                        model.gate(g, q, controls)
                        calls.append(gate(0, g, q, controls))
                        self.assertEqual(picture(calls, 0, n), (n,) + model.form())

    def test_refused(self):
        before = [begin(0, 2), gate(0, 3, 0), gate(0, 6, 0), begin(1, 0), begin(2, 6)]
        for call in (
            gate(0, 8, 0), gate(0, TOP, 0), gate(0, 0, 2), gate(0, 3, TOP), gate(0, 0, 0, 1), gate(0, 0, 1, 2),
            gate(0, 0, 1, 3), gate(0, 3, 0, 4), gate(0, 3, 0, 6), gate(0, 3, 0, TOP), gate(0, 3, 0, 2 ** 31),
            gate(1, 0, 0), gate(1, 3, 0, 1), gate(2, 0, 6), gate(2, 0, 5, 32), gate(2, 0, 5, 64), gate(0, 8, 2, 7),
        ):
            self.check_refused(before, call, [-1])

    def test_coordinates_at_the_limit(self):
        at_even = shrunk(112)
        self.assertEqual(picture(at_even, 0, 1), (1, 113, [root_power(112), ONE]))
        self.assertEqual(root_power(112)[0], LIMIT)
        at_odd = shrunk(113)
        self.assertEqual(picture(at_odd, 0, 1), (1, 114, [(0, LIMIT, 0, -LIMIT), ONE]))
        for g in (0, 1, 2, 4, 5, 6, 7):
            self.check(at_even + [gate(0, g, 0)], [0])
            self.check(at_odd + [gate(0, g, 0)], [0])
        below = at_even + [run(0, "x0;z0;x0")]
        self.assertEqual(picture(below, 0, 1), (1, 113, [(-LIMIT, 0, 0, 0), ONE]))

    def test_one_below_the_limit_is_fine(self):
        calls = shrunk(110) + [gate(0, 3, 0)]
        half = LIMIT // 2
        self.assertEqual(picture(calls, 0, 1), (1, 112, [(half + 1, 0, 0, 0), (half - 1, 0, 0, 0)]))

    def test_one_beyond_the_limit_is_too_fine(self):
        # The numbers would be 2^56 + 1 and 2^56 - 1, in each of the coordinates and with both signs.
        before = shrunk(112)
        self.check_refused(before, gate(0, 3, 0), [-3])
        self.check_refused(before + [gate(0, 2, 0)], gate(0, 3, 0), [-3])
        self.check_refused(before + [run(0, "x0;z0;x0;z0")], gate(0, 3, 0), [-3])
        for turn in ("t0", "s0", "t0;s0", "z0", "t0;z0", "s0;z0", "t'0"):
            self.check_refused(before + [run(0, f"{turn};x0;{turn}")], gate(0, 3, 0), [-3])

    def test_controlled_mixing_too_fine(self):
        # What the control leaves alone would have to be told as 2^57.
        before = shrunk(113)[:-1] + [keep(0, 3)]
        self.check_refused(before, gate(0, 3, 1, 1), [-3])
        self.check_refused(before + [run(0, "z0;x0;z0;x0")], gate(0, 3, 1, 1), [-3])

    def test_larger_on_the_way_to_the_one_form_is_fine(self):
        # No amplitude is where the control reads 1: told at the next level it's 2^57, but its one form is as before.
        before = shrunk(113)[:-1] + [keep(0, 7)]
        self.check(before + [gate(0, 3, 1, 4)], [0])
        self.assertEqual(picture(before + [gate(0, 3, 1, 4)], 0, 3), picture(before, 0, 3))

    def test_refusals_in_order(self):
        before = shrunk(112)
        self.check_refused(before, gate(0, 3, 1), [-1])
        self.check_refused(before, gate(0, 3, 0, 1), [-1])
        self.check_refused(before, gate(0, 3, 0, 2), [-1])
