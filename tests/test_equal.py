"""Call 26, equal."""

import inspect
import random
import unittest

from exactqubits.ring import equal
from tests.model import likeness, table_of
from tests.support import TOP, ask, begin, data_of, run
from tests.texts import fault, random_circuit

# Circuits that come to a state that's too fine by their last gate on one state alone: how many qubits, text, that state.
FINE_ON_ONE = (
    (2, "(h0;t0?1;h1?0)^74;h0", 2),
    (2, "(h1?0;x1;t0?1;x0?1)^113;h1?0", 1),
    (3, "(h0;t0;x1?0;h1;t1;x2?1;h2)^111;h0", 0),
    (3, "(h0?1,2;t0;h1?0;t1;x2?0;h2)^38", 6),
)
FINE = "(h0;t0)^225;h0"
MANY = "(t0)^1000;(t0)^1000"


def flips(bits):
    """A circuit that takes amplitude i to i XOR bits."""
    return ";".join(f"x{q}" for q in range(3) if bits >> q & 1)


class EqualTest(unittest.TestCase):
    def told(self, n, a, b):
        left = data_of(a)
        right = data_of(b)
        answer = equal(n, left, right)
        self.assertEqual((left, right), (data_of(a), data_of(b)))
        self.assertIs(type(answer), list)
        self.assertEqual({type(part) for part in answer}, {int})
        return answer

    def check(self, n, a, b, wanted):
        self.assertEqual(self.told(n, a, b), wanted, (n, a, b))

    def check_both(self, n, a, b, wanted):
        self.check(n, a, b, wanted)
        self.check(n, b, a, wanted)


class AnswersTest(EqualTest):
    def test_no_qubit(self):
        for a in ("", ";", "()", "~(;())^1000", " \n"):
            self.check_both(0, a, "", [0, 2])

    def test_the_same(self):
        for n, a, b in (
            (1, "", ""), (1, "h0;z0;h0", "x0"), (1, "(t0)^8", ""), (1, "t0;t0", "s0"), (1, "s0;s0", "z0"),
            (1, "s'0", "s0;z0"), (1, "y0", "s'0;x0;s0"), (1, "h0;h0", ""), (1, "t'0", "(t0)^7"), (1, "x'0", "x0"),
            (2, "h1;z1?0;h1", "x1?0"), (2, "z0?1", "z1?0"), (2, "x0?1;x1?0;x0?1", "x1?0;x0?1;x1?0"),
            (2, "t0?1", "t1?0"), (2, "h0;t1", "t1;h0"), (2, "h0;h1;x1?0;h0;h1", "x0?1"),
            (3, "h2;z2?0,1;h2", "x2?1,0"), (3, "x0?1;x0?2;x0?1", "x0?2"), (3, "h0?1,2;h0?2,1", ""),
            (3, "h2;x2?1;t'2;x2?0;t2;x2?1;t'2;x2?0;t1;t2;h2;x1?0;t0;t'1;x1?0", "x2?0,1"),
        ):
            self.check_both(n, a, b, [0, 2])

    def test_the_same_of_more_qubits_than_are_named(self):
        for n in (1, 2, 3):
            self.check_both(n, "h0;z0;h0", "x0", [0, 2])
            self.check_both(n, "h0;z0;h0", "y0", [0, 0])
            self.check_both(n, "y0", "z0;x0", [0, 1])

    def test_but_for_a_factor(self):
        for n, a, b in (
            (1, "y0", "z0;x0"), (1, "y0", "x0;z0"), (1, "(x0;z0)^2", ""), (1, "x0;t0;x0", "t'0"), (1, "(h0;s0)^3", ""),
            (1, "z0;y0", "x0"), (2, "(x0;z0)^2", ""), (2, "y1", "z1;x1"), (2, "y0;y1", "z0;z1;x0;h1;z1;h1"),
            (3, "y2;h0", "h0;x2;z2"), (3, "x1;t1;x1;x2?0,1", "t'1;x2?0,1"),
        ):
            self.check_both(n, a, b, [0, 1])

    def test_each_factor_there_is(self):
        for n in (1, 2, 3):
            for times in range(17):
                for text in ("", "h0;t0;h0", "x0"):
                    self.check_both(n, f"{text};(t0;x0;t0;x0)^{times}", text, [0, 2 if times % 8 == 0 else 1])

    def test_not_the_same(self):
        for n, a, b in (
            (1, "x0", ""), (1, "h0", ""), (1, "h0", "x0"), (1, "t0;h0", "h0;t0"), (1, "h0;t0;h0", "h0;s0;h0"),
            (2, "x0", "x1"), (2, "x0?1", "x1?0"), (2, "h0", "h1"), (2, "h0;h1", "h0"), (2, "x0?1;x1?0", "x1?0;x0?1"),
            (3, "x2?0,1", "x2?0"), (3, "x2?0", "x2?1"), (3, "h0?1", "h0?2"), (3, "x2", ""),
        ):
            self.check_both(n, a, b, [0, 0])

    def test_a_factor_that_is_not_the_same_for_all_states(self):
        for n, a, b in (
            (1, "s0", ""), (1, "z0", ""), (1, "t0", "t'0"), (1, "t0", "s0"), (1, "x0", "y0"), (1, "x0;s0", "x0"),
            (2, "z0?1", ""), (2, "t0?1", "t'0?1"), (2, "x0;z1", "x0"), (2, "(x0?1;z0?1)^2", ""), (2, "h0;s1", "h0"),
            (3, "z0?1,2", ""), (3, "h0;h1;h2;z0?1,2", "h0;h1;h2"), (3, "s2", "s1"),
        ):
            self.check_both(n, a, b, [0, 0])

    def test_other_on_one_state_alone(self):
        for n, controls in ((1, ""), (2, "?1"), (3, "?1,2")):
            for i in range(2 ** n):
                at_i = flips(2 ** n - 1 - i)
                for gate in ("t", "s", "z", "t'"):
                    self.check_both(n, f"{at_i};{gate}0{controls};{at_i}", "", [0, 0])
                    self.check_both(n, f"h0;{at_i};{gate}0{controls};{at_i}", "h0", [0, 0])

    def test_levels_of_single_states_count(self):
        self.check_both(2, "h0?1", "x0?1", [0, 0])
        self.check_both(2, "h0?1", "", [0, 0])
        self.check_both(2, "h0?1;(h1;t1)^9", "(h1;t1)^9", [0, 0])

    def test_a_factor_at_some_states_is_a_gate_at_others(self):
        self.check_both(2, "(x0?1;z0?1)^2", "z1", [0, 2])
        self.check_both(2, "(t0?1;x0?1)^2", "t1", [0, 2])
        self.check_both(3, "y0?1,2", "z0?1,2;x0?1,2;s1?2", [0, 2])
        self.check_both(3, "y0?1,2", "z0?1,2;x0?1,2", [0, 0])

    def test_controls(self):
        self.check_both(3, "x0?1,2", "x0?2,1", [0, 2])
        self.check_both(3, "x0?1", "x0?1,2;x2;x0?1,2;x2", [0, 2])
        self.check_both(3, "t0?1,2", "t2?0,1", [0, 2])
        self.check_both(2, "h0?1", "s0;h0;t0;x0?1;t'0;h0;s'0", [0, 2])

    def test_blocks(self):
        for a, b in (
            ("(h0;t0)^3", "h0;t0;h0;t0;h0;t0"), ("~(h0;t0)", "t'0;h0"), ("~(h0;t0)^2", "t'0;h0;t'0;h0"),
            ("~(~(h0;t0)^2)^3", "(h0;t0)^6"), ("((h0;t0)^2;s0)^2", "h0;t0;h0;t0;s0;h0;t0;h0;t0;s0"), ("(h0;t0)^0", ""),
            ("~((h0;t0)^2;s0)", "s'0;t'0;h0;t'0;h0"), ("(((h0)))", "h0"), ("(" * 16 + "y0" + ")" * 16, "y0"),
        ):
            self.check_both(1, a, b, [0, 2])
        self.check_both(1, "~(h0;t0)", "~(t0;h0)", [0, 0])
        self.check_both(3, "~(h0;t1?0;x2?0,1)", "x2?1,0;t'0?1;h0", [0, 2])

    def test_undoing_what_was_done(self):
        chance = random.Random(71)
        for turn in range(40):
            n = chance.randint(1, 3)
            text = random_circuit(chance, n, 2)[0]
            self.check_both(n, f"({text});~({text})", "", [0, 2])
            self.check_both(n, f"~({text});x'0;({text})", f"~({text});x0;({text})", [0, 2])

    def test_against_the_model(self):
        chance = random.Random(72)
        seen = {0: 0, 1: 0, 2: 0}
        for turn in range(120):
            n = chance.choice([0, 1, 1, 1, 2, 2, 3])
            a, left = random_circuit(chance, n, 1)
            b, right = random_circuit(chance, n, 1)
            wanted = likeness(table_of(n, left), table_of(n, right))
            seen[wanted] += 1
            self.check_both(n, a, b, [0, wanted])
        self.assertGreater(min(seen[0], seen[2]), 5)

    def test_short_circuits_against_the_model(self):
        gates = [("", []), ("x0", [(0, 0, 0)]), ("y0", [(1, 0, 0)]), ("z0", [(2, 0, 0)]), ("h0", [(3, 0, 0)]),
                 ("s0", [(4, 0, 0)]), ("t'0", [(7, 0, 0)])]
        twos = [(f"{a};{b}", table_of(1, p + q)) for a, p in gates for b, q in gates]
        for a, left in twos:
            for b, right in twos:
                self.check(1, a, b, [0, likeness(left, right)])

    def test_names_and_nothing_kept(self):
        self.assertEqual(list(inspect.signature(equal).parameters), ["n", "a", "b"])
        given = (1, data_of("y0"), data_of("z0;x0"))
        first = equal(*given)
        first.append(9)
        self.assertEqual(equal(n=given[0], a=given[1], b=given[2]), [0, 1])
        same = data_of("h0")
        self.assertEqual(equal(1, same, same), [0, 2])


class RefusalsTest(EqualTest):
    def test_more_than_three_qubits(self):
        for n in (4, 5, 6, 7, TOP):
            self.check(n, "", "", [-1])
            self.check_both(n, "x0", "q", [-1])
            self.check_both(n, " " * 4097, MANY + ";t0", [-1])
        self.check(3, "x2", "x2", [0, 2])

    def test_bytes(self):
        full = "x0;" * 1365 + "\n"
        self.assertEqual(len(full), 4096)
        self.check_both(1, full, "x0", [0, 2])
        self.check(1, full, full, [0, 2])
        self.check_both(2, " " * 4096, "", [0, 2])
        for long in (full + " ", " " * 4097, "q" * 4097, [255] * 5000, "x" + "1" * 4999):
            for other in ("", "x0", "q", full, MANY + ";t0", FINE):
                self.check_both(1, long, other, [-2])
            self.check(1, long, long, [-2])
        self.check_both(0, " " * 4097, "", [-2])

    def test_faults(self):
        for n, text, place in (
            (0, "x0", 1), (0, "x", 1), (1, "x1", 1), (1, "x0?0", 3), (1, "x0?1", 3), (1, "x0?", 3), (1, "h0;;q", 4),
            (2, "x2", 1), (2, "x0?1,1", 5), (2, "x0?1,", 5), (3, "x3", 1), (3, "x0?1,2,", 7), (3, "x01", 1),
            (3, "()^1001", 3), (3, "(" * 17, 16), (3, "~", 1), (3, "(x0", 3), (3, "x0)", 2), (3, [200], 0), (3, [0], 0),
            (3, [120, 48, 13], 2), (3, "q" * 4096, 0), (3, "x0;" * 1365 + "x", 4096),
        ):
            for other in ("", MANY + ";t0" if n else "", FINE if n else ""):
                self.check(n, text, other, [-6, place])
                self.check(n, other, text, [-7, place])
            self.check(n, text, text, [-6, place])

    def test_faults_in_both(self):
        self.check(1, "x0;q", "q", [-6, 3])
        self.check(1, "q", "x0;q", [-6, 0])
        self.check(1, "", "x0;q", [-7, 3])

    def test_random_faults(self):
        chance = random.Random(73)
        for turn in range(1500):
            n = chance.randint(0, 3)
            a, b = ["".join(chance.choice("xh'?,;~()^012 ") for sign in range(chance.randint(0, 6))) for text in "ab"]
            told = self.told(n, a, b)
            if fault(a, n) is not None:
                self.assertEqual(told, [-6, fault(a, n)])
            elif fault(b, n) is not None:
                self.assertEqual(told, [-7, fault(b, n)])
            else:
                self.assertEqual(told[0], 0)

    def test_gates(self):
        self.check_both(1, MANY, "", [0, 2])
        self.check_both(3, "((t0;t1;t2;x0?1)^250)^2", "(x0?1)^0;(t0;t1;t2;x0?1)^500", [0, 2])
        for more in (MANY + ";t0", "t0;" + MANY, "((t0)^667)^3", "(" * 15 + "t0" + ")^1000" * 15, f"~({MANY};x0)"):
            for other in ("", "h0", MANY, FINE):
                self.check_both(1, more, other, [-5])
            self.check(1, more, more, [-5])
            self.check_both(1, f"({more})^0", "", [0, 2])
        self.check(1, f"{MANY};()^1000", MANY, [0, 2])

    def test_each_counts_its_own_gates(self):
        self.check(1, MANY, MANY, [0, 2])
        self.check(1, "(t0)^1000;h0", "(t0)^1000;h0", [0, 2])

    def test_too_fine(self):
        for text in (FINE, f"{FINE};~({FINE})", f"{FINE};h0", "(h0;t0)^1000", f"x0;{FINE}"):
            for n in (1, 2, 3):
                self.check_both(n, text, "", [-3])
                self.check_both(n, text, "h0", [-3])
                self.check(n, text, text, [-3])
        # One gate less, and it isn't yet.
        self.check(1, "(h0;t0)^225", "(h0;t0)^225", [0, 2])
        self.check_both(1, "(h0;t0)^225;~((h0;t0)^225)", "", [0, 2])
        self.check_both(1, "(h0;t0)^225", "(h0;t0)^224;h0;t'0;s0", [0, 2])

    def test_too_fine_on_one_state_alone(self):
        for n, text, only in FINE_ON_ONE:
            every = range(2 ** n)
            told = [ask([begin(0, n), run(0, flips(i)), run(0, text)])[-1] for i in every]
            self.assertEqual(told, [[-3] if i == only else [0] for i in every])
            for i in every:
                # Turned round first, so that each state is the one in its turn.
                moved = f"{flips(i ^ only)};{text}"
                self.check_both(n, moved, "", [-3])
                self.check_both(n, f"{moved};~({moved})", "", [-3])
                self.check_both(n, moved, FINE, [-3])

    def test_too_fine_with_controls(self):
        self.check_both(3, "(h0?1,2;t0)^500", "", [-3])
        self.check_both(2, "(h0?1;t0)^225;h0?1", "", [-3])
        self.check_both(2, "(h0?1;t0)^225", "", [0, 0])

    def test_in_this_order(self):
        long = " " * 4097
        many = MANY + ";t0"
        for n, a, b, wanted in (
            (4, long, "q", [-1]), (4, "x0", "x0", [-1]), (4, FINE, many, [-1]),
            (3, "q", long, [-2]), (3, long, "q", [-2]), (3, many, long, [-2]), (3, long, FINE, [-2]),
            (3, "x0;q", "q", [-6, 3]), (3, "q", many, [-6, 0]), (3, "q", FINE, [-6, 0]),
            (3, f"{many};q", "", [-6, len(many) + 1]), (3, f"{FINE};q", "", [-6, len(FINE) + 1]),
            (3, many, "q", [-7, 0]), (3, FINE, "q", [-7, 0]), (3, "", f"{many};q", [-7, len(many) + 1]),
            (3, many, FINE, [-5]), (3, FINE, many, [-5]), (3, f"{FINE};{many}", "", [-5]), (3, "", f"{FINE};{many}", [-5]),
            (3, FINE, "x0", [-3]), (3, "x0", FINE, [-3]),
        ):
            self.check(n, a, b, wanted)


if __name__ == "__main__":
    unittest.main()
