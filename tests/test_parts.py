"""Calls 18 look, 20 rank, 21 keep, 22 beside and 23 moved."""

import itertools
import random

from tests.model import Model
from tests.support import (
    LIMIT, TOP, CallsTest, ask, begin, beside, gate, keep, level, look, moved, picture, qubits, rank, root_power, run,
    shrunk,
)
from tests.test_tell import random_pair

ONE = (1, 0, 0, 0)
NAUGHT = (0, 0, 0, 0)
MIXED = "h0;t0;h0;h1;t1;h1;x1?0;h0;t1;h2;t2;x2?1;h1"


class LookTest(CallsTest):
    def test_shows(self):
        ready = [begin(0, 2), run(0, "h0;h1;t1")]
        self.assertEqual(picture(ready + [look(0, 1, 0)], 0, 2), (2, 2, [ONE, ONE, NAUGHT, NAUGHT]))
        self.assertEqual(picture(ready + [look(0, 0, 1)], 0, 2), (2, 2, [NAUGHT, ONE, NAUGHT, (0, 1, 0, 0)]))
        self.check(ready + [look(0, 0, 1)], [0])

    def test_level_falls_where_it_can(self):
        ready = [begin(0, 2), run(0, "h0;h1?0")]
        self.assertEqual(picture(ready + [look(0, 0, 0)], 0, 2), (2, 1, [ONE, NAUGHT, NAUGHT, NAUGHT]))
        self.assertEqual(picture(ready + [look(0, 0, 1)], 0, 2), (2, 2, [NAUGHT, ONE, NAUGHT, ONE]))
        self.assertEqual(picture(shrunk(112) + [look(0, 0, 0)], 0, 1), (1, 1, [ONE, NAUGHT]))
        self.assertEqual(picture(shrunk(112) + [look(0, 0, 1)], 0, 1), (1, 113, [NAUGHT, ONE]))

    def test_what_is_sure_changes_nothing(self):
        ready = [begin(0, 3), run(0, "h0;x1;t0;h0")]
        self.assertEqual(picture(ready + [look(0, 1, 1), look(0, 2, 0)], 0, 3), picture(ready, 0, 3))

    def test_refused(self):
        before = [begin(0, 2), run(0, "h0;t0"), begin(1, 0), begin(2, 6)]
        for call in (look(0, 2, 0), look(0, TOP, 0), look(0, 0, 2), look(0, 0, TOP), look(0, 2, 2), look(1, 0, 0),
                     look(2, 6, 0), look(0, 1, 2)):
            self.check_refused(before, call, [-1])

    def test_cannot_be(self):
        before = [begin(0, 2), run(0, "h0;t0"), begin(1, 3), run(1, "h0;x1?0;x2"), look(1, 0, 1)]
        for call in (look(0, 1, 1), look(1, 0, 0), look(1, 1, 0), look(1, 2, 0)):
            self.check_refused(before, call, [-4])
        self.check(before + [look(0, 0, 0), look(0, 0, 1)], [-4])
        self.check([begin(0, 1), run(0, "h0;h0"), look(0, 0, 1)], [-4])

    def test_against_the_model(self):
        chance = random.Random(41)
        for turn in range(60):
            n = chance.randint(1, 4)
            text, model = random_pair(chance, n)
            calls = [begin(0, n), run(0, text)]
            for again in range(3):
                q = chance.randrange(n)
                b = chance.randrange(2)
                calls.append(look(0, q, b))
                self.check(calls, [0] if model.look(q, b) else [-4])
                self.assertEqual(picture(calls, 0, n), (n,) + model.form())


class RankTest(CallsTest):
    def test_ranks(self):
        self.check([begin(0, 2), run(0, "h0;h1"), rank(0, 1)], [0, 1])
        self.check([begin(0, 2), run(0, "h0;x1?0"), rank(0, 1)], [0, 2])
        self.check([begin(0, 2), run(0, "h0;h1;z0?1"), rank(0, 2)], [0, 2])
        self.check([begin(0, 2), run(0, "h0;h1;t0?1"), rank(0, 2)], [0, 2])
        pairs = "h0;h1;h2;x3?0;x4?1;x5?2"
        for mask, told in ((7, 8), (56, 8), (1, 2), (9, 1), (27, 1), (11, 2), (3, 4), (31, 2), (21, 8)):
            self.check([begin(0, 6), run(0, pairs), rank(0, mask)], [0, told])

    def test_none_and_all(self):
        for n in (0, 1, 3, 6):
            ready = [begin(0, n)] + ([run(0, ";".join(f"h{q};t{q};h{q}" for q in range(n)))] if n else [])
            self.check(ready + [rank(0, 0)], [0, 1])
            self.check(ready + [rank(0, 2 ** n - 1)], [0, 1])

    def test_refused(self):
        before = [begin(0, 2), run(0, "h0;x1?0"), begin(1, 0), begin(2, 6)]
        for call in (rank(0, 4), rank(0, 7), rank(0, TOP), rank(1, 1), rank(2, 64), rank(2, 2 ** 31)):
            self.check_refused(before, call, [-1])

    def test_rank_between(self):
        # Of three equal pairs one is bound fast by a look.
        ready = [begin(0, 4), run(0, "h0;h1;x2?0;x3?1;x3?0,1")]
        model = Model(4)
        for step in ((3, 0, 0), (3, 1, 0), (0, 2, 1), (0, 3, 2), (0, 3, 3)):
            model.gate(*step)
        for mask in range(16):
            self.check(ready + [rank(0, mask)], [0, model.rank(mask)])
        self.check(ready + [rank(0, 3)], [0, 3])

    def test_nearly_a_lesser_rank(self):
        # The table's determinant is 2^112 - 1 or 2^112 + 1, or 0: nothing may be lost.
        both = shrunk(56, 0) + [beside(0, 0)]
        self.check(both + [rank(0, 1)], [0, 1])
        self.check(both + [gate(0, 2, 0, 2), rank(0, 1)], [0, 2])
        self.check(both + [gate(0, 6, 0, 2), rank(0, 2)], [0, 2])

    def test_against_the_model(self):
        chance = random.Random(42)
        seen = set()
        for turn in range(50):
            n = chance.randint(1, 4)
            text, model = random_pair(chance, n)
            for mask in range(2 ** n):
                told = model.rank(mask)
                seen.add(told)
                self.check([begin(0, n), run(0, text), rank(0, mask)], [0, told])
        self.assertGreaterEqual(seen, {1, 2})

    def test_all_masks_of_six_qubits(self):
        text = ";".join(f"h{q};t{q};h{q}" for q in range(6)) + ";" + ";".join(f"t{q}?{(q + 2) % 6};h{q}" for q in range(6))
        told = [part[1] for part in ask([begin(0, 6), run(0, text)] + [rank(0, mask) for mask in range(64)])[2:]]
        for mask in range(64):
            self.assertEqual(told[mask], told[63 - mask])
        model = Model(6)
        for q in range(6):
            for g in (3, 6, 3):
                model.gate(g, q, 0)
        for q in range(6):
            model.gate(6, q, 1 << (q + 2) % 6)
            model.gate(3, q, 0)
        for mask in (1, 7, 11, 21, 42, 51, 60):
            self.assertEqual(told[mask], model.rank(mask))


class KeepTest(CallsTest):
    def test_order_of_the_kept(self):
        ready = [begin(0, 3), run(0, "x0;h1;t1;s2")]
        self.assertEqual(picture(ready + [keep(0, 2)], 0, 1), (1, 1, [ONE, (0, 1, 0, 0)]))
        self.assertEqual(picture(ready + [keep(0, 5)], 0, 2), (2, 1, [NAUGHT, ONE, NAUGHT, NAUGHT]))
        self.assertEqual(picture(ready + [keep(0, 6)], 0, 2), (2, 1, [ONE, (0, 1, 0, 0), NAUGHT, NAUGHT]))
        self.check(ready + [keep(0, 6)], [0])

    def test_column_of_the_least_index(self):
        # Qubit 1 reads 0 first with 1 + w beside it, then 1 with 1 - w.
        ready = [begin(0, 2), run(0, "h1;t1;h1;h0")]
        self.assertEqual(picture(ready + [keep(0, 1)], 0, 1), (1, 3, [(1, 1, 0, 0), (1, 1, 0, 0)]))
        turned = [begin(0, 2), run(0, "x1;h0;x0;t0;t1")]
        self.assertEqual(picture(turned + [keep(0, 1)], 0, 1), (1, 1, [(0, 1, 0, 0), (0, 0, 1, 0)]))

    def test_least_index_not_least_column(self):
        # The least i is 1, at which the others read 1; the column in which they read 0 has nothing at all there.
        ready = [begin(0, 3), run(0, "x1;h0;h2;t0")]
        self.assertEqual(picture(ready + [keep(0, 4)], 0, 1), (1, 2, [ONE, ONE]))
        skew = [begin(0, 2), run(0, "x0;h1;t0;s1")]
        self.assertEqual(picture(skew + [keep(0, 2)], 0, 1), (1, 1, [(0, 1, 0, 0), (0, 0, 0, 1)]))

    def test_level_begins_as_it_was(self):
        ready = [begin(0, 2), run(0, "h0;h1")]
        self.assertEqual(picture(ready + [keep(0, 1)], 0, 1), (1, 2, [ONE, ONE]))
        shown = [begin(0, 2), run(0, "h0;h1?0"), look(0, 0, 0)]
        self.assertEqual(picture(shown + [keep(0, 2)], 0, 1), (1, 1, [ONE, NAUGHT]))

    def test_level_falls(self):
        ready = shrunk(112) + [begin(1, 1), run(1, "h0"), beside(1, 0)]
        self.assertEqual(picture(ready + [keep(1, 1)], 1, 1), (1, 2, [ONE, ONE]))
        self.assertEqual(picture(ready + [keep(1, 2)], 1, 1), (1, 114, [root_power(112), ONE]))

    def test_none_and_all(self):
        ready = [begin(0, 3), run(0, MIXED)]
        self.assertEqual(picture(ready + [keep(0, 7)], 0, 3), picture(ready, 0, 3))
        self.assertEqual(picture([begin(0, 2), run(0, "h0;x1?0"), keep(0, 0)], 0, 0), (0, 1, [ONE]))
        self.assertEqual(picture([begin(0, 0), keep(0, 0)], 0, 0), (0, 0, [ONE]))

    def test_refused(self):
        before = [begin(0, 2), run(0, "h0;x1?0"), begin(1, 0), begin(2, 6)]
        for call in (keep(0, 4), keep(0, 5), keep(0, TOP), keep(1, 1), keep(2, 64)):
            self.check_refused(before, call, [-1])
        for call in (keep(0, 1), keep(0, 2)):
            self.check_refused(before, call, [-5])
        self.check_refused([begin(0, 3), run(0, "h0;h1;h2;z0?1,2")], keep(0, 4), [-5])

    def test_against_the_model(self):
        chance = random.Random(43)
        kept = 0
        for turn in range(80):
            n = chance.randint(1, 4)
            text, model = random_pair(chance, n)
            mask = chance.randrange(2 ** n)
            calls = [begin(0, n), run(0, text), keep(0, mask)]
            if model.rank(mask) == 1:
                model.keep(mask)
                kept += 1
                self.check(calls, [0])
                self.assertEqual(picture(calls, 0, model.n), (model.n,) + model.form())
            else:
                self.check(calls, [-5])
        self.assertGreater(kept, 30)


class BesideTest(CallsTest):
    def test_order_and_levels(self):
        ready = [begin(0, 1), begin(1, 2), run(0, "h0;t0"), run(1, "x0;h1"), beside(0, 1)]
        w = (0, 1, 0, 0)
        both = [NAUGHT, NAUGHT, ONE, w, NAUGHT, NAUGHT, ONE, w]
        self.check(ready, [0])
        self.assertEqual(picture(ready, 0, 3), (3, 2, both))
        self.assertEqual(picture(ready, 1, 2), (2, 1, [NAUGHT, ONE, NAUGHT, ONE]))

    def test_one_form_of_both(self):
        # 1 + w and 1 - w make 1 - i, a multiple of root 2; others don't.
        calls = [begin(0, 1), begin(1, 1), run(0, "h0;t0;h0"), look(0, 0, 0), run(1, "h0;t0;h0"), look(1, 0, 1)]
        self.assertEqual(picture(calls, 0, 1), (1, 2, [(1, 1, 0, 0), NAUGHT]))
        self.assertEqual(picture(calls + [beside(0, 1)], 0, 2), (2, 3, [NAUGHT, NAUGHT, (0, 0, 0, -1), NAUGHT]))

    def test_beside_itself(self):
        ready = [begin(0, 2), run(0, "h0;t0;x1?0"), beside(0, 0)]
        w = (0, 1, 0, 0)
        some = {0: ONE, 3: w, 12: w, 15: (0, 0, 1, 0)}
        self.assertEqual(picture(ready, 0, 4), (4, 2, [some.get(i, NAUGHT) for i in range(16)]))
        self.check([begin(0, 3), beside(0, 0), qubits(0)], [0, 6])
        self.check([begin(0, 0), beside(0, 0), qubits(0)], [0, 0])

    def test_without_qubits(self):
        ready = [begin(0, 0), begin(1, 6), run(1, "h0;t0;h3"), beside(0, 1)]
        self.assertEqual(picture(ready, 0, 6), picture(ready[:3], 1, 6))
        self.check(ready[:3] + [beside(1, 0)], [0])

    def test_refused(self):
        before = [begin(0, 3), run(0, "h0"), begin(1, 4), run(1, "h1"), begin(2, 6)]
        for o, p in ((0, 1), (1, 0), (1, 1), (2, 0), (0, 2), (2, 2)):
            self.check_refused(before, beside(o, p), [-2])

    def test_limit(self):
        even = shrunk(56)
        self.assertEqual(picture(even + [beside(0, 0)], 0, 2),
                         (2, 114, [(LIMIT, 0, 0, 0), (2 ** 28, 0, 0, 0), (2 ** 28, 0, 0, 0), ONE]))
        odd = shrunk(56, 0) + shrunk(57, 1)
        self.assertEqual(picture(odd + [beside(0, 1)], 0, 2)[2][0], (0, LIMIT, 0, -LIMIT))
        self.check_refused(shrunk(57), beside(0, 0), [-3])
        self.check_refused(odd, beside(1, 1), [-3])

    def test_just_beyond_the_limit(self):
        at = shrunk(110, 0) + shrunk(2, 1)
        self.assertEqual(picture(at + [beside(0, 1)], 0, 2)[2][0], (LIMIT, 0, 0, 0))
        beyond = at + [gate(0, 3, 0)]
        self.assertEqual(picture(beyond, 0, 1)[2][0], (LIMIT // 2 + 1, 0, 0, 0))
        self.assertEqual(picture(beyond, 1, 1), (1, 3, [(2, 0, 0, 0), ONE]))
        self.check_refused(beyond, beside(0, 1), [-3])
        self.check_refused(beyond, beside(1, 0), [-3])

    def test_refusals_in_order(self):
        # Both of twelve qubits and too fine.
        wide = shrunk(57)[:-1]
        self.check_refused(wide, beside(0, 0), [-2])

    def test_against_the_model(self):
        chance = random.Random(44)
        for turn in range(40):
            n = chance.randint(1, 3)
            m = chance.randint(1, 3)
            left, one = random_pair(chance, n)
            right, other = random_pair(chance, m)
            calls = [begin(2, n), begin(1, m), run(2, left), run(1, right)]
            for model, o, q in ((one, 2, chance.randrange(n)), (other, 1, chance.randrange(m))):
                if model.look(q, 1):
                    calls.append(look(o, q, 1))
            one.beside(other)
            self.assertEqual(picture(calls + [beside(2, 1)], 2, n + m), (n + m,) + one.form())


class MovedTest(CallsTest):
    def test_three_in_a_ring(self):
        ready = [begin(0, 3), run(0, "x0")]
        for to in itertools.permutations(range(3)):
            told = picture(ready + [moved(0, to)], 0, 3)[2]
            self.assertEqual([i for i, z in enumerate(told) if z == ONE], [1 << to[0]])
        self.check(ready + [moved(0, [1, 2, 0])], [0])

    def test_there_and_back(self):
        ready = [begin(0, 3), run(0, MIXED)]
        there = ready + [moved(0, [1, 2, 0])]
        self.assertNotEqual(picture(there, 0, 3), picture(ready, 0, 3))
        self.assertEqual(picture(there + [moved(0, [2, 0, 1])], 0, 3), picture(ready, 0, 3))
        self.assertEqual(picture(ready + [moved(0, [0, 1, 2])], 0, 3), picture(ready, 0, 3))

    def test_few_qubits(self):
        self.check([begin(0, 0), moved(0, [])], [0])
        self.check([begin(0, 1), moved(0, [0])], [0])
        self.check([begin(0, 6), moved(0, [5, 4, 3, 2, 1, 0])], [0])

    def test_refused(self):
        before = [begin(0, 3), run(0, MIXED), begin(1, 0), begin(2, 1)]
        for to in ([], [0], [0, 1], [0, 1, 2, 3], [0, 0, 1], [0, 1, 1], [1, 2, 3], [0, 1, 3], [0, 1, TOP], [0] * 40,
                   list(range(40)), [2, 1, 0, 0]):
            self.check_refused(before, moved(0, to), [-1])
        self.check_refused(before, moved(1, [0]), [-1])
        self.check_refused(before, moved(2, []), [-1])
        self.check_refused(before, moved(2, [1]), [-1])

    def test_against_the_model(self):
        chance = random.Random(45)
        for turn in range(40):
            n = chance.randint(1, 4)
            text, model = random_pair(chance, n)
            to = list(range(n))
            chance.shuffle(to)
            model.moved(to)
            self.assertEqual(picture([begin(0, n), run(0, text), moved(0, to), level(0)], 0, n), (n,) + model.form())
