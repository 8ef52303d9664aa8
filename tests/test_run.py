"""Call 14, run: what a circuit does, and all its refusals."""

import random

from tests.model import Model
from tests.support import CallsTest, ask, begin, gate, keep, look, picture, run, shrunk
from tests.texts import random_circuit


class RunTest(CallsTest):
    def check_does(self, n, text, gates):
        """The text does the gates, told as (g, q, controls), on a state in which it shows."""
        ready = [begin(0, n)] + [run(0, f"h{q};t{q};h{q};s{q}") for q in range(n)]
        self.check(ready + [run(0, text)], [0])
        self.assertEqual(picture(ready + [run(0, text)], 0, n), picture(ready + [gate(0, *g) for g in gates], 0, n))

    def test_each_letter(self):
        for text, g in (("x", 0), ("y", 1), ("z", 2), ("h", 3), ("s", 4), ("t", 6)):
            self.check_does(2, f"{text}1", [(g, 1, 0)])
        for text, g in (("x", 0), ("y", 1), ("z", 2), ("h", 3), ("s", 5), ("t", 7)):
            self.check_does(2, f"{text}'1", [(g, 1, 0)])

    def test_controls(self):
        self.check_does(4, "x2?0", [(0, 2, 1)])
        self.check_does(4, "t'2?3,0", [(7, 2, 9)])
        self.check_does(4, "h0?3,2,1", [(3, 0, 14)])

    def test_one_after_another(self):
        self.check_does(2, "h0;t0;x1?0;h1", [(3, 0, 0), (6, 0, 0), (0, 1, 1), (3, 1, 0)])
        self.check_does(2, "t0;h0", [(6, 0, 0), (3, 0, 0)])

    def test_empty_texts_and_items(self):
        for text in ("", " ", "\n", ";", ";;;", " ; \n; ", "()", "(;)", "( )^ 0", "~()", "~ ( ( ) ; ~ ( ) ^ 7 ) ^ 1000 ;"):
            self.check_does(2, text, [])
            self.check([begin(0, 0), run(0, text)], [0])
        self.check_does(1, ";;h0;;(;t0;);;", [(3, 0, 0), (6, 0, 0)])

    def test_blanks_anywhere_but_in_numbers(self):
        self.check_does(3, " t\n'  2 ?\n1 , 0 ; \n~\n(\n h 1 )  ^ 3 \n", [(7, 2, 3), (3, 1, 0), (3, 1, 0), (3, 1, 0)])

    def test_blocks(self):
        self.check_does(1, "(h0;t0)", [(3, 0, 0), (6, 0, 0)])
        self.check_does(1, "(h0;t0)^0", [])
        self.check_does(1, "(h0;t0)^1", [(3, 0, 0), (6, 0, 0)])
        self.check_does(1, "(h0;t0)^3", [(3, 0, 0), (6, 0, 0)] * 3)
        self.check_does(1, "((t0)^3;h0)^2", ([(6, 0, 0)] * 3 + [(3, 0, 0)]) * 2)
        self.check_does(1, "(t0)^10", [(6, 0, 0)] * 2)

    def test_undoing(self):
        self.check_does(2, "~(x0;y1;z0;h1;s0;t1)", [(7, 1, 0), (5, 0, 0), (3, 1, 0), (2, 0, 0), (1, 1, 0), (0, 0, 0)])
        self.check_does(2, "~(s'0?1;h0)", [(3, 0, 0), (4, 0, 2)])
        self.check_does(1, "~(h0;t'0)^2", [(6, 0, 0), (3, 0, 0)] * 2)
        self.check_does(1, "~(h0;~(t0;h0))", [(6, 0, 0), (3, 0, 0), (3, 0, 0)])
        self.check_does(1, "~((t0;h0)^2;s0)", [(5, 0, 0)] + [(3, 0, 0), (7, 0, 0)] * 2)

    def test_random_circuits(self):
        chance = random.Random(11)
        for turn in range(150):
            n = chance.randint(1, 3)
            text, gates = random_circuit(chance, n, 3)
            model = Model(n)
            for step in gates[:200]:
                model.gate(*step)
            if len(gates) <= 200 and not model.too_fine():
                self.assertEqual(picture([begin(0, n), run(0, text)], 0, n), (n,) + model.form())

    def test_undone_circuits_leave_all_as_it_was(self):
        chance = random.Random(12)
        for turn in range(60):
            n = chance.randint(1, 4)
            start = random_circuit(chance, n, 2)[0]
            text = random_circuit(chance, n, 3)[0]
            before = [begin(0, n), run(0, start)]
            after = before + [run(0, f"({text}) ; ~({text})")]
            self.assertEqual(ask(after)[-1], [0])
            self.assertEqual(picture(after, 0, n), picture(before, 0, n))


class LimitsTest(CallsTest):
    def test_bytes(self):
        before = [begin(0, 2), run(0, "h0;t0")]
        self.check(before + [run(0, " " * 4096)], [0])
        self.check(before + [run(0, "x0;" * 1365 + "\n")], [0])
        self.check(before + [run(0, [0] * 4096)], [-6, 0])
        for text in (" " * 4097, "q" * 4097, [255] * 5000, "x0;" * 1366, "(x0)^1000;" * 500):
            self.check_refused(before, run(0, text), [-2])

    def test_gates(self):
        before = [begin(0, 1), run(0, "h0")]
        for text in ("(t0)^1000;(t0)^1000", "((t0)^1000)^2", "((t0)^40)^50", "((t0)^3;t0)^500", "(t0;t0)^1000;()^1000"):
            self.check(before + [run(0, text)], [0])
            for more in (f"{text};t0", f"t0;{text}", f"(t0;{text})", f"~({text};t0)", f"(x0)^0;{text};x0"):
                self.check_refused(before, run(0, more), [-5])
        self.check_refused(before, run(0, "((t0)^667)^3"), [-5])
        self.check_refused(before, run(0, "(" * 16 + "t0" + ")^1000" * 16), [-5])

    def test_gates_not_done_do_not_count(self):
        before = [begin(0, 1), run(0, "h0;t0;h0")]
        for text in (
            "(((t0)^1000)^1000)^0", "(" * 16 + "t0" + ")^1000" * 15 + ")^0", "((t0)^0)^1000",
            "((t0)^1000;(t0)^1000;(t0)^1000)^0", "~((h0)^1000;(t0)^1000;(h0)^1000)^0", "(((t0)^1000)^1000)^0;(x0)^1000;(x0)^1000",
        ):
            self.assertEqual(ask(before + [run(0, text)])[-1], [0])
            self.assertEqual(picture(before + [run(0, text)], 0, 1), picture(before, 0, 1))

    def test_repeated_blocks_without_gates_cost_nothing(self):
        deep = "(" * 16 + ")^1000" * 16
        self.check([begin(0, 0), run(0, deep)], [0])
        wide = "((;;;)^1000;()^1000)^1000;" * 100
        self.check([begin(0, 6), run(0, wide)], [0])
        self.check([begin(0, 1), run(0, f"(t0)^1000;(t0)^1000;{deep}")], [0])

    def test_too_fine_after_one_of_them(self):
        before = shrunk(112)
        for text in ("h0", "h0;h0", "x0;h0;h0;x0", "(h0)^1000", "~(h0;t0;h0)", "h0;x0;y0;h0;h0;h0"):
            self.check_refused(before, run(0, text), [-3])
        self.check(before + [run(0, "x0;y0;z0;s0;t0;(h0)^0")], [0])

    def test_many_mixings_are_too_fine(self):
        model = Model(1)
        times = 0
        while not model.too_fine():
            model.gate(3, 0, 0)
            model.gate(6, 0, 0)
            times += 1
        last = [begin(0, 1), run(0, f"(h0;t0)^{times - 1}")]
        self.check(last, [0])
        self.check_refused([begin(0, 1)], run(0, f"(h0;t0)^{times}"), [-3])
        self.check_refused(last, run(0, "h0"), [-3])
        self.check_refused([begin(0, 1)], run(0, "(h0;t0)^1000"), [-3])
        self.check_refused([begin(0, 1)], run(0, "(h0;t0)^500;~(h0;t0)^500"), [-3])

    def test_level_of_a_long_circuit(self):
        model = Model(1)
        for turn in range(100):
            model.gate(3, 0, 0)
            model.gate(6, 0, 0)
        self.assertEqual(picture([begin(0, 1), run(0, "(h0;t0)^100")], 0, 1), (1,) + model.form())

    def test_refusals_in_order(self):
        before = shrunk(112)
        self.check_refused(before, run(0, "h0;(h0)^1000;(h0)^1000"), [-5])
        self.check_refused(before, run(0, "h0;(h0)^1000;(h0)^1000;"), [-5])
        self.check_refused(before, run(0, "h0;(h0)^1000;(h0)^1000;x"), [-6, 24])
        self.check_refused(before, run(0, "h0;h1"), [-6, 4])
        self.check_refused(before, run(0, "h0;" + " " * 4093 + "x"), [-2])
        self.check_refused(before, run(0, "h0;(h0)^1000;(h0)^1000" + " " * 4096), [-2])
        self.check_refused(before, run(0, "h0;h0"), [-3])

    def test_part_of_a_refused_circuit_is_not_done(self):
        wide = shrunk(112)[:-1] + [keep(0, 3)]
        self.check_refused(wide, run(0, "x1;h1;t1;x0?1;h0"), [-3])
        self.check_refused([begin(0, 2), look(0, 0, 0)], run(0, "x0;x1;x2"), [-6, 7])
