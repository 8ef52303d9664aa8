"""The fault's place of texts that are not circuits (call 14's -6)."""

import random

from tests.support import CallsTest, ask, begin, run
from tests.texts import fault, random_circuit


class FaultTest(CallsTest):
    def check_fault(self, n, text, place):
        before = [begin(0, n)] if n == 0 else [begin(0, n), run(0, "h0;t0")]
        self.check_refused(before, run(0, text), [-6, place])

    def test_ends_too_soon(self):
        for text in ("x", "x'", "x ", "x'\n", "x0?", "x0? ", "x0?1,", "x0;y", "~", "~ ", "(", "~(", "(x0", "((x0)",
                     "(x0;", "()^", "() ^ ", "(x0)^2;t", "(()", "( ( ) ^ 3 "):
            self.check_fault(2, text, len(text))

    def test_ends_too_soon_where_no_qubit_is_left(self):
        for n, text in ((0, "x"), (0, "h'"), (0, "(t "), (1, "x0?"), (2, "x0?1,"), (1, "x0? ")):
            self.check_fault(n, text, len(text))

    def test_bytes_that_cannot_stand(self):
        for text, place in (
            ("q", 0), ("X0", 0), ("0", 0), ("'", 0), ("?", 0), (",", 0), ("^", 0), (")", 0), ("i0", 0),
            ("xx", 1), ("x;", 1), ("x?", 1), ("x)", 1), ("x''0", 2), ("x'?", 2), ("x~", 1), ("x(", 1), ("x^2", 1),
            ("x0'", 2), ("x0x0", 2), ("x0 x0", 3), ("x0(", 2), ("x0~(", 2), ("x0^2", 2), ("x0,1", 2), ("x0)", 2),
            ("x0??1", 3), ("x0?;", 3), ("x0?,1", 3), ("x0?x", 3), ("x0?1?2", 4), ("x0?1,,2", 5), ("x0?1,;", 5),
            ("x0?1'", 4), ("x0?1^2", 4), ("x0?1(", 4),
            ("~x0", 1), ("~~()", 1), ("~;", 1), ("~)", 1), ("~0", 1), ("~ x", 2),
            ("())", 2), ("();)", 3), ("()x0", 2), ("()(", 2), ("()~(", 2), ("()'", 2), ("()2", 2), ("()?", 2), ("(),", 2),
            ("()^^2", 3), ("()^x", 3), ("()^;", 3), ("()^)", 3), ("()^(", 3), ("()^2^3", 4), ("()^2x0", 4), ("()^2 3", 5),
            ("()^2(", 4), ("()^-1", 3), ("x-1", 1), ("x+0", 1), ("(x0;q)", 4), ("x0;;q", 4),
        ):
            self.check_fault(3, text, place)

    def test_other_bytes(self):
        for byte in [9, 11, 12, 13, 0, 31, 33, 127, 128, 160, 255] + list(b'!"#$%&*+-./:<=>@[]_`{|}'):
            self.check_fault(2, [byte], 0)
            self.check_fault(2, [32, 10, byte], 2)
            self.check_fault(2, list(b"x0") + [byte], 2)
            self.check_fault(2, list(b"x") + [byte, 48], 1)

    def test_blanks_do_not_move_the_place(self):
        self.check_fault(3, " \n x \n q", 7)
        self.check_fault(3, "x  \n7", 4)
        self.check_fault(3, "x0 ? \n 0", 7)

    def test_blank_within_a_number(self):
        self.check_fault(6, "x1 2", 3)
        self.check_fault(6, "x0\n0", 3)
        self.check_fault(6, "x0?1 2", 5)
        self.check_fault(6, "()^1 0", 5)
        self.check_fault(6, "()^10\n00", 6)

    def test_numbers_that_cannot_be(self):
        for n, text, place in (
            (0, "x0", 1), (1, "x1", 1), (2, "x2", 1), (6, "x6", 1), (6, "x10", 1), (6, "h0;x12;q", 4), (6, "x00", 1),
            (6, "x01", 1), (6, "x 007", 2), (6, "x'6", 2), (2, "x0?2", 3), (2, "x0?0", 3), (3, "x0?1,1", 5),
            (3, "x0?1,0", 5), (3, "x0?1,2,1", 7), (3, "x2?01", 3), (3, "x0?1,02", 5), (6, "x1?2,10", 5),
            (1, "()^1001", 3), (1, "()^00", 3), (1, "()^01", 3), (1, "()^0000", 3), (1, "()^ 10000", 4),
            (1, "(x0)^1001", 5), (1, "()^1001q", 3), (6, "x6q", 1), (6, "x00q", 1), (1, "x0?1", 3), (1, "x0?0", 3),
        ):
            self.check_fault(n, text, place)

    def test_numbers_that_can_be(self):
        for n, text in ((1, "x0"), (6, "x5"), (6, "x0?1,2,3,4,5"), (6, "x5?4,3,2,1,0"), (1, "()^0"), (1, "()^1000"),
                        (1, "()^999"), (1, "()^10"), (2, "x0?1;x0?1;x1?0")):
            self.check([begin(0, n), run(0, text)], [0])

    def test_numbers_of_many_digits(self):
        self.check_fault(6, "x" + "1" * 4095, 1)
        self.check_fault(6, "x" + "0" * 4095, 1)
        self.check_fault(6, "x0?" + "5" * 4093, 3)
        self.check_fault(6, "()^" + "9" * 4093, 3)
        self.check_fault(6, "()^1" + "0" * 4000 + "q", 3)
        self.check_fault(6, "x4294967296", 1)
        self.check_fault(6, "x18446744073709551616", 1)
        self.check_fault(6, "()^4294967297", 3)

    def test_brackets(self):
        self.check([begin(0, 1), run(0, "(" * 16 + "x0" + ")" * 16)], [0])
        self.check([begin(0, 1), run(0, "~(" * 16 + "x0" + ")^1" * 16)], [0])
        self.check_fault(1, "(" * 17 + ")" * 17, 16)
        self.check_fault(1, "(" * 17, 16)
        self.check_fault(1, "(" * 16 + "x0;(", 19)
        self.check_fault(1, "(" * 16, 16)
        self.check([begin(0, 1), run(0, ";".join(["(())"] * 40))], [0])
        self.check([begin(0, 1), run(0, "(" * 15 + "();()" + ")" * 15)], [0])

    def test_the_bracket_too_many_is_the_fault(self):
        self.check_fault(1, "(" * 16 + "~(" + ")" * 17, 17)
        self.check_fault(1, "(" * 16 + "~ \n(", 19)
        self.check_fault(1, "~(" * 17, 33)
        self.check_fault(1, "(" * 16 + "~", 17)
        self.check_fault(1, "(" * 16 + "~x", 17)

    def test_brackets_too_many_to_close(self):
        self.check_fault(1, "(" * 16 + ")" * 17, 32)

    def test_random_texts(self):
        chance = random.Random(21)
        signs = "xyzhst'?,;~()^0123 \n" * 2 + "q789A\t"
        faults = 0
        for turn in range(3000):
            n = chance.randint(0, 6)
            text = list(random_circuit(chance, n, 3)[0])
            for change in range(chance.randint(0, 3)):
                place = chance.randint(0, len(text))
                text[place:place + chance.randint(0, 1)] = [chance.choice(signs) for sign in range(chance.randint(0, 2))]
            text = "".join(text)
            told = ask([begin(0, n), run(0, text)])[-1]
            place = fault(text, n)
            if place is None:
                self.assertNotEqual(told[0], -6, text)
            else:
                faults += 1
                self.assertEqual(told, [-6, place], text)
        self.assertGreater(faults, 1000)

    def test_random_signs(self):
        chance = random.Random(22)
        for turn in range(5000):
            n = chance.randint(0, 3)
            text = "".join(chance.choice("xh'?,;~()^012 ") for sign in range(chance.randint(0, 9)))
            told = ask([begin(0, n), run(0, text)])[-1]
            place = fault(text, n)
            self.assertEqual(told, [0] if place is None else [-6, place], text)
