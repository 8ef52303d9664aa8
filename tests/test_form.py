"""Call 27, form, and P4: every circuit of one qubit has one word, and alike ones the same."""

import inspect
import itertools
import random
import re
import unittest

from exactqubits.ring import equal, form
from tests.model import NAUGHT, inverse, likeness, mul, table_of
from tests.support import data_of
from tests.texts import CODES, fault, random_circuit

WORDS = ["", "h", "s", "hs", "sh", "ss", "hsh", "hss", "shs", "ssh", "sss", "hshs", "hssh", "hsss", "shss", "sshs",
         "hshss", "hsshs", "shssh", "shsss", "sshss", "hshssh", "hshsss", "hsshss"]
SHAPE = re.compile("(" + "|".join(WORDS) + ")(th|ths)*t?")
MANY = "(t0)^500"


def circuit_of(word):
    """The text of the circuit that does the word's letters from left to right."""
    return ";".join(f"{letter}0" for letter in word)


def gates_of(word):
    return [(CODES[letter], 0, 0) for letter in word]


def without_factor(word):
    """What the word does, divided so that the first number that isn't 0 is 1."""
    numbers = table_of(1, gates_of(word))
    by = inverse(next(x for x in numbers if x != NAUGHT))
    return tuple(mul(x, by) for x in numbers)


def short_words(most):
    """All words of the shape with so many pieces at most."""
    for many in range(most + 1):
        for pieces in itertools.product(("th", "ths"), repeat=many):
            for first in WORDS:
                for last in ("", "t"):
                    yield first + "".join(pieces) + last


class FormTest(unittest.TestCase):
    def answer(self, text):
        data = data_of(text)
        told = form(data)
        self.assertEqual(data, data_of(text))
        self.assertIs(type(told), list)
        self.assertEqual({type(part) for part in told}, {int})
        return told

    def word(self, text):
        told = self.answer(text)
        self.assertEqual(told[0], 0, text)
        return bytes(told[1:]).decode("ascii")

    def check(self, text, word):
        self.assertEqual(self.answer(text), [0] + data_of(word), text)


class WordsTest(FormTest):
    def test_each_of_the_24_as_it_stands(self):
        self.assertEqual(len(WORDS), 24)
        for word in WORDS:
            self.check(circuit_of(word), word)

    def test_the_24_are_the_first_that_do_so(self):
        # The words of h and s by length, then by letters; what each does is told by the first that does it.
        first = {}
        for length in range(8):
            for letters in itertools.product("hs", repeat=length):
                word = "".join(letters)
                self.check(circuit_of(word), first.setdefault(without_factor(word), word))
        self.assertEqual(list(first.values()), WORDS)

    def test_pieces_and_a_last_t(self):
        for word in ("t", "th", "ths", "tht", "thst", "thth", "thths", "thsth", "thsths", "ht", "hth", "hsshssthstht",
                     "st", "sth", "ssst", "hshsssths", "hsshssthst"):
            self.check(circuit_of(word), word)

    def test_short_words_as_they_stand(self):
        for word in short_words(3):
            self.check(circuit_of(word), word)

    def test_words_do_differently(self):
        words = list(short_words(2))
        self.assertEqual(len({without_factor(word) for word in words}), len(words))
        self.assertEqual(len(words), 24 * 7 * 2)

    def test_long_words_as_they_stand(self):
        chance = random.Random(81)
        for turn in range(60):
            pieces = [chance.choice(["th", "ths"]) for piece in range(chance.randint(1, 160))]
            word = chance.choice(WORDS) + "".join(pieces) + chance.choice(["", "t"])
            self.check(circuit_of(word), word)

    def test_longest_words(self):
        self.check("(t0;h0)^250", "th" * 250)
        self.check("(h0;t0)^250", "h" + "th" * 249 + "t")
        self.check("(t0;h0;s0)^166;t0", "ths" * 166 + "t")
        word = "hsshss" + "ths" * 164 + "t"
        self.check(circuit_of(word), word)


class CircuitsTest(FormTest):
    def test_each_gate_and_what_undoes_it(self):
        for text, word in (
            ("x0", "hssh"), ("y0", "hsshss"), ("z0", "ss"), ("h0", "h"), ("s0", "s"), ("t0", "t"),
            ("x'0", "hssh"), ("y'0", "hsshss"), ("z'0", "ss"), ("h'0", "h"), ("s'0", "sss"), ("t'0", "ssst"),
        ):
            self.check(text, word)
            self.check(f"~(~({text}))", word)
            self.check(f"{text};~({text})", "")
            self.check(f"~({text});{text}", "")

    def test_none_and_nothing(self):
        for text in ("", " ", "\n", ";", ";;()", "(h0)^0", "~()^1000", "h0;h0", "(t0)^8", "(t0)^16", "(s0)^4", "(x0;z0)^2"):
            self.check(text, "")

    def test_left_to_right(self):
        self.check("h0;s0", "hs")
        self.check("s0;h0", "sh")
        self.check("t0;h0", "th")
        self.check("h0;t0", "ht")
        self.check("t0;h0;s0", "ths")
        self.check("s0;h0;t0", "sht")

    def test_turns(self):
        for times, word in enumerate(("", "t", "s", "st", "ss", "sst", "sss", "ssst", "", "t")):
            self.check(f"(t0)^{times}", word)

    def test_moved_through_others(self):
        self.check("t0;s0", "st")
        self.check("t0;z0", "sst")
        self.check("t0;x0", self.word("x0;t'0"))
        self.check("x0;t0;x0", "ssst")
        self.check("t0;x0;t0;x0", "")
        self.check("t0;y0;t0;y0", "")
        self.check("h0;t0;h0;h0;t0;h0", "hsh")
        self.check("t0;h0;s0;s0", self.word("x0;t'0;h0"))

    def test_alike_ones_have_the_same(self):
        for a, b in (
            ("y0", "z0;x0"), ("y0", "x0;z0"), ("x0;t0;x0", "t'0"), ("(h0;s0)^3", ""), ("s'0", "s0;z0"), ("h0;z0;h0", "x0"),
            ("h0;t0;h0;t0;(x0;z0)^2", "h0;t0;h0;t0"), ("h0;x0;t0;h0", "h0;t'0;x0;h0"), ("s0;h0;s0", "h0;s'0;h0"),
            ("~(h0;t0;h0)", "h0;t'0;h0"), ("((h0;t0)^2)^2", "(h0;t0)^4"), ("t0;h0;x0;t0", "t0;z0;h0;t0"),
        ):
            self.assertNotEqual(equal(1, data_of(a), data_of(b)), [0, 0])
            self.assertEqual(self.word(a), self.word(b))

    def test_the_same_just_where_equal_says_so(self):
        chance = random.Random(82)
        seen = {0: 0, 1: 0, 2: 0}
        texts = [random_circuit(chance, 1, 2)[0] for turn in range(60)]
        for a, b in itertools.combinations(texts, 2):
            alike = equal(1, data_of(a), data_of(b))[1]
            seen[alike] += 1
            self.assertEqual(self.word(a) == self.word(b), alike > 0)
        self.assertGreater(min(seen.values()), 10)

    def test_against_the_model(self):
        chance = random.Random(83)
        for turn in range(200):
            text, gates = random_circuit(chance, 1, 3)
            if len(gates) <= 60:
                self.check_does(text, gates)

    def test_long_circuits_against_the_model(self):
        chance = random.Random(84)
        undone = {"s'": (5, 0, 0), "t'": (7, 0, 0)}
        for many in (100, 200, 300, 400, 500, 500):
            # After every other letter h, so that not too much is undone again.
            letters = ["h"] * many
            letters[::2] = [chance.choice(["x", "y", "z", "s", "s'", "t", "t", "t", "t'", "t'"]) for two in range(many // 2)]
            gates = [undone[letter] if letter in undone else (CODES[letter], 0, 0) for letter in letters]
            word = self.check_does(circuit_of(letters), gates)
            self.assertGreater(len(word), many // 10)

    def check_does(self, text, gates):
        """The word has the shape, and does what the gates do but for a factor."""
        word = self.word(text)
        self.assertTrue(SHAPE.fullmatch(word), word)
        self.assertGreater(likeness(table_of(1, gates), table_of(1, gates_of(word))), 0, text)
        return word

    def test_a_word_is_its_own(self):
        chance = random.Random(85)
        for turn in range(200):
            word = self.word(random_circuit(chance, 1, 3)[0])
            self.check(circuit_of(word), word)

    def test_undone_it_is_the_empty_one(self):
        chance = random.Random(86)
        for turn in range(200):
            text = random_circuit(chance, 1, 2)[0]
            self.check(f"({text});~({text})", "")
        self.check("(h0;t0)^125;~((h0;t0)^125)", "")

    def test_finer_than_states_may_be(self):
        # No state is asked for, so none is too fine.
        self.check("(h0;t0)^250", "h" + "th" * 249 + "t")
        self.assertEqual(equal(1, data_of("(h0;t0)^250"), []), [-3])

    def test_names_and_nothing_kept(self):
        self.assertEqual(list(inspect.signature(form).parameters), ["text"])
        data = data_of("h0;t0;x0")
        first = form(data)
        again = list(first)
        first.append(9)
        self.assertEqual(form(data_of("t0;h0;s0")), [0] + data_of("ths"))
        self.assertEqual(form(text=data), again)


class RefusalsTest(FormTest):
    def test_bytes(self):
        full = "(h0)^0;" + " " * 4086 + "t0\n"
        self.assertEqual(len(full), 4096)
        self.check(full, "t")
        self.check(" " * 4096, "")
        for long in (full + " ", " " * 4097, "q" * 4097, [255] * 5000, "x0;" * 1366, "x0?" * 1366):
            self.assertEqual(self.answer(long), [-2])

    def test_controls_have_their_fault(self):
        for text, place in (("x0?", 3), ("x0?0", 3), ("x0?1", 3), ("x0 ? 1", 5), ("h0;t'0?1,2", 7), ("x0?,", 3), ("x0?q", 3)):
            self.assertEqual(self.answer(text), [-6, place])

    def test_faults(self):
        for text, place in (
            ("q", 0), ("x", 1), ("x1", 1), ("x0;h2", 4), ("h", 1), ("x00", 1), ("x0h0", 2), ("hs", 1), ("th", 1), ("~", 1),
            ("~h0", 1), ("(h0", 3), ("h0)", 2), ("()^1001", 3), ("()^01", 3), ("(" * 17, 16), ("(" * 16 + "~(", 17),
            ([0], 0), ([255], 0), ([104, 48, 9], 2), ("q" * 4096, 0), ("x0;" * 1365 + "x", 4096), ("x''0", 2),
        ):
            self.assertEqual(self.answer(text), [-6, place])

    def test_random_faults(self):
        chance = random.Random(87)
        for turn in range(3000):
            text = "".join(chance.choice("xht'?;~()^001 ") for sign in range(chance.randint(0, 8)))
            place = fault(text, 1)
            if place is None:
                self.word(text)
            else:
                self.assertEqual(self.answer(text), [-6, place])

    def test_gates(self):
        self.check(MANY, "ss")
        self.check(f"{MANY};()^1000;(t0)^0;((t0)^1000)^0", "ss")
        self.check("x0;" * 499 + "x0", "")
        for more in (f"{MANY};t0", f"t0;{MANY}", "(h0;t0;h0)^167", "x0;" * 501, "(t0)^501", f"~({MANY};h0)", "(t0)^1000",
                     "((t0)^1000)^2", "((t0)^1000)^3", "(" * 16 + "t0" + ")^1000" * 16):
            self.assertEqual(self.answer(more), [-5])

    def test_which_comes_first(self):
        self.assertEqual(self.answer(f"{MANY};t0" + " " * 4096), [-2])
        self.assertEqual(self.answer("q" + " " * 4096), [-2])
        self.assertEqual(self.answer(f"{MANY};t0;q"), [-6, 12])
        self.assertEqual(self.answer("(t0)^1000;x0?1"), [-6, 13])
        self.assertEqual(self.answer("(t0)^1000;x0"), [-5])


if __name__ == "__main__":
    unittest.main()
