"""P1, P2, P3 and P5 over the whole program; random calls are held against the second reckoning."""

import random

from exactqubits.ring import equal, form
from tests.model import Model
from tests.support import (
    TOP, CallsTest, amp, ask, begin, beside, data_of, gate, inner, keep, level, look, moved, picture, picture_calls, qubits,
    rank, run, same, shrunk, sure, weight,
)
from tests.texts import fault, other_way, random_circuit


class Session:
    """Calls on four states together with the answers that the words ask for."""

    def __init__(self, chance):
        self.chance = chance
        self.models = [None] * 4
        self.calls = []
        self.wanted = []

    def say(self, call, answer):
        self.calls.append(call)
        self.wanted.append(answer)

    def step(self):
        o = self.chance.choice([0, 0, 1, 1, 2, 3, 4])
        if self.chance.random() < 0.12 or self.models == [None] * 4:
            return self.begin(o)
        acts = (self.qubits, self.gate, self.gate, self.run, self.run, self.amp, self.level, self.weight, self.look,
                self.sure, self.rank, self.keep, self.beside, self.moved, self.pair, self.pair)
        act = self.chance.choice(acts)
        if o > 3 or self.models[o] is None:
            return self.say(self.chance.choice([qubits(o), look(o, 0, 9), rank(o, TOP), run(o, "q")]), [-10])
        act(o, self.models[o])

    def begin(self, o):
        n = self.chance.choice([0, 1, 1, 2, 2, 3, 7])
        if o > 3 or n > 6:
            return self.say(begin(o, n), [-1])
        self.models[o] = Model(n)
        self.say(begin(o, n), [0])

    def qubits(self, o, model):
        self.say(qubits(o), [0, model.n])

    def gate(self, o, model):
        g = self.chance.randint(0, 8)
        q = self.chance.randint(0, model.n)
        controls = self.chance.choice([0, 0, self.chance.randrange(2 ** (model.n + 1))])
        if g > 7 or q >= model.n or controls >= 2 ** model.n or controls >> q & 1:
            return self.say(gate(o, g, q, controls), [-1])
        model.gate(g, q, controls)
        self.say(gate(o, g, q, controls), [0])

    def run(self, o, model):
        text, gates = random_circuit(self.chance, model.n, 1)
        if self.chance.random() < 0.2:
            text += self.chance.choice(["x", ")", ";x7", ";t0?", ";(h", "q"])
        place = fault(text, model.n)
        if place is not None:
            return self.say(run(o, text), [-6, place])
        for done in gates:
            model.gate(*done)
        self.say(run(o, text), [0])

    def amp(self, o, model):
        i = self.chance.randint(0, 2 ** model.n)
        numbers = model.form()[1] + [(0, 0, 0, 0)]
        self.say(amp(o, i), [0] + list(numbers[i]))

    def level(self, o, model):
        self.say(level(o), [0, model.form()[0]])

    def weight(self, o, model):
        mask = self.chance.randrange(2 ** (model.n + 1))
        value = self.chance.randrange(2 ** (model.n + 1))
        self.say(weight(o, mask, value), [0] + model.weight(mask, value))

    def look(self, o, model):
        q = self.chance.randint(0, model.n)
        b = self.chance.choice([0, 0, 1, 1, 2])
        if q >= model.n or b > 1:
            return self.say(look(o, q, b), [-1])
        self.say(look(o, q, b), [0] if model.look(q, b) else [-4])

    def sure(self, o, model):
        xs = self.chance.randint(0, 2 ** model.n)
        zs = self.chance.randint(0, 2 ** model.n)
        refused = max(xs, zs) >= 2 ** model.n
        self.say(sure(o, xs, zs), [-1] if refused else [0] + model.mean(xs, zs))

    def rank(self, o, model):
        mask = self.chance.randint(0, 2 ** model.n)
        self.say(rank(o, mask), [-1] if mask >= 2 ** model.n else [0, model.rank(mask)])

    def keep(self, o, model):
        mask = self.chance.randint(0, 2 ** model.n)
        if mask >= 2 ** model.n:
            return self.say(keep(o, mask), [-1])
        if model.rank(mask) != 1:
            return self.say(keep(o, mask), [-5])
        model.keep(mask)
        self.say(keep(o, mask), [0])

    def beside(self, o, model):
        p = self.chance.randint(0, 3)
        other = self.models[p]
        if other is None:
            return self.say(beside(o, p), [-10])
        if model.n + other.n > 6:
            return self.say(beside(o, p), [-2])
        if model.n + other.n > 4:
            return None
        model.beside(other.copy())
        self.say(beside(o, p), [0])

    def moved(self, o, model):
        to = list(range(model.n + self.chance.choice([0, 0, 0, 1])))
        self.chance.shuffle(to)
        if len(to) > model.n:
            return self.say(moved(o, to), [-1])
        model.moved(to)
        self.say(moved(o, to), [0])

    def pair(self, o, model):
        p = self.chance.randint(0, 3)
        other = self.models[p]
        one = self.chance.random() < 0.5
        call = same(o, p) if one else inner(o, p)
        if other is None:
            return self.say(call, [-10])
        if other.n != model.n:
            return self.say(call, [-2])
        self.say(call, [0, model.same(other)] if one else [0] + model.inner(other))


class PromisesTest(CallsTest):
    def test_sessions(self):
        chance = random.Random(51)
        seen = {}
        for turn in range(60):
            session = Session(chance)
            for step in range(60):
                session.step()
            for o, model in enumerate(session.models):
                if model is not None:
                    k, numbers = model.form()
                    told = [[0, model.n], [0, k]] + [[0] + list(z) for z in numbers]
                    for call, answer in zip(picture_calls(o, model.n), told):
                        session.say(call, answer)
            self.assertEqual(ask(session.calls), session.wanted)
            for call, answer in zip(session.calls, session.wanted):
                seen[call[0], answer[0]] = True
        told = set(range(11, 26)) - {number for number, first in seen if first == 0}
        self.assertEqual(told, set())

    def test_weight_of_all_stays_under_gates(self):
        chance = random.Random(52)
        for turn in range(60):
            n = chance.randint(1, 6)
            calls = [begin(0, n)]
            for again in range(6):
                calls += [run(0, random_circuit(chance, n, 2)[0]), weight(0, 0, 0), level(0)]
            parts = ask(calls)
            for of_all, k in zip(parts[2::3], parts[3::3]):
                self.assertEqual(of_all, [0, 2 ** k[1], 0])

    def test_weight_of_all_stays_after_a_look_too(self):
        calls = [begin(0, 2), run(0, "h0;t0;h0;h1?0"), look(0, 0, 0)]
        weights = []
        for text in ("", "h1", "t0;h0", "h1?0;s'1;h1", "(h0;t0;h1;x0?1)^9"):
            calls += [run(0, text), weight(0, 0, 0), level(0)]
        parts = ask(calls)
        for of_all, k in zip(parts[4::3], parts[5::3]):
            # (u + v root 2) / 2^k is the same each time.
            weights.append((of_all[1] * 2 ** (40 - k[1]), of_all[2] * 2 ** (40 - k[1])))
        self.assertEqual(len(weights), 5)
        self.assertEqual(set(weights), {weights[0]})

    def check_leave_equal_states(self, n, ready, left, right):
        """Circuits that equal calls the same leave the same state, level and all."""
        self.assertEqual(equal(min(n, 3), data_of(left), data_of(right)), [0, 2])
        self.assertEqual(picture(ready + [run(0, left)], 0, n), picture(ready + [run(0, right)], 0, n))

    def test_circuits_done_in_another_way_leave_equal_states(self):
        chance = random.Random(53)
        for turn in range(80):
            few = chance.randint(1, 3)
            n = chance.choice([few, 6]) if few == 3 else few
            text, gates = random_circuit(chance, few, 2)
            if len(gates) <= 200:
                ready = [begin(0, n), run(0, random_circuit(chance, n, 2)[0])]
                self.check_leave_equal_states(n, ready, text, other_way(gates))

    def test_circuits_that_are_equal_but_for_a_factor_leave_the_same(self):
        chance = random.Random(54)
        for turn in range(300):
            n = chance.choice([1, 1, 2])
            left, right = [random_circuit(chance, n, 1)[0] for text in range(2)]
            ready = [run(o, f"h{q};t{q};h{q};s{q}") for o in (0, 1) for q in range(n)]
            told = ask([begin(0, n), begin(1, n)] + ready + [run(0, left), run(1, right), same(0, 1)])[-1]
            if equal(n, data_of(left), data_of(right))[1] > 0:
                self.assertEqual(told, [0, 1])

    def test_refused_calls_without_states_change_nothing(self):
        for text in ([], [255] * 4097, data_of("x0;q"), data_of("(h0;t0)^1000"), data_of("((t0)^1000)^3")):
            given = list(text)
            told = [equal(1, given, given), form(given), equal(4, given, given)]
            self.assertEqual(given, text)
            self.assertEqual([equal(1, given, given), form(given), equal(4, given, given)], told)

    def test_equal_circuits_leave_equal_states(self):
        for n, left, right in (
            (1, "h0;z0;h0", "x0"), (1, "(t0)^8", ""), (1, "t0;t0", "s0"), (1, "s0;s0", "z0"), (1, "s'0", "s0;z0"),
            (2, "h1;z1?0;h1", "x1?0"), (2, "z0?1", "z1?0"), (2, "x0?1;x1?0;x0?1", "x1?0;x0?1;x1?0"),
            (3, "h2;z2?0,1;h2", "x2?1,0"), (2, "t0?1", "t1?0"), (1, "(h0)^2", "~()"), (1, "y0", "~(s0);x0;s0"),
        ):
            ready = [begin(0, n)] + [run(0, f"h{q};t{q};h{q};t{q}") for q in range(n)]
            self.check_leave_equal_states(n, ready, left, right)

    def test_undoing_near_the_limit(self):
        ready = shrunk(110)
        there = ready + [run(0, "h0;t0;x0;s'0")]
        self.assertNotEqual(picture(there, 0, 1), picture(ready, 0, 1))
        self.assertEqual(picture(there + [run(0, "~(h0;t0;x0;s'0)")], 0, 1), picture(ready, 0, 1))
