"""Calls 1 plus, 2 minus, 3 times and 4 turned."""

import unittest

from exactqubits.ring import minus, plus, times, turned
from tests import model
from tests.ring_support import MOST, NAUGHT, ROOT, W, RingTest, pairs, samples

OF_TWO = "x0 x1 x2 x3 y0 y1 y2 y3"


class PlusTest(RingTest):
    def test_adds_coordinate_by_coordinate(self):
        self.assertEqual(plus(1, 2, 3, 4, 50, 60, 70, 80), [0, 51, 62, 73, 84])
        self.assertEqual(plus(1, -2, 3, -4, -10, 20, -30, 40), [0, -9, 18, -27, 36])

    def test_naught(self):
        self.assertEqual(plus(0, 0, 0, 0, 0, 0, 0, 0), [0, 0, 0, 0, 0])
        self.assertEqual(plus(5, -6, 7, -8, -5, 6, -7, 8), [0, 0, 0, 0, 0])

    def test_largest_coordinates_are_not_cut(self):
        self.assertEqual(plus(MOST, -MOST, MOST, -MOST, MOST, -MOST, -MOST, 1), [0, 2 * MOST, -2 * MOST, 0, 1 - MOST])

    def test_against_the_model(self):
        for x, y in pairs():
            self.assertEqual(self.told(plus, *x, *y), model.add(x, y))

    def test_names_and_nothing_kept(self):
        self.check_kept_to(plus, OF_TWO, (1, 2, 3, 4, 5, 6, 7, 8))


class MinusTest(RingTest):
    def test_takes_away_coordinate_by_coordinate(self):
        self.assertEqual(minus(1, 2, 3, 4, 50, 60, 70, 80), [0, -49, -58, -67, -76])
        self.assertEqual(minus(50, 60, 70, 80, 1, 2, 3, 4), [0, 49, 58, 67, 76])
        self.assertEqual(minus(1, -2, 3, -4, -10, 20, -30, 40), [0, 11, -22, 33, -44])

    def test_one_coordinate_alone(self):
        for place in range(4):
            alone = tuple(7 if i == place else 0 for i in range(4))
            self.assertEqual(self.told(minus, *alone, *NAUGHT), alone)
            self.assertEqual(self.told(minus, *NAUGHT, *alone), model.negative(alone))

    def test_naught(self):
        self.assertEqual(minus(0, 0, 0, 0, 0, 0, 0, 0), [0, 0, 0, 0, 0])
        for x in samples():
            self.assertEqual(self.told(minus, *x, *x), NAUGHT)
            self.assertEqual(self.told(minus, *x, *NAUGHT), x)

    def test_largest_coordinates_are_not_cut(self):
        self.assertEqual(minus(MOST, -MOST, MOST, -MOST, -MOST, MOST, MOST, 1), [0, 2 * MOST, -2 * MOST, 0, -MOST - 1])

    def test_takes_away_what_was_added(self):
        for x, y in pairs():
            self.assertEqual(self.told(minus, *self.told(plus, *x, *y), *y), x)
            self.assertEqual(self.told(plus, *self.told(minus, *x, *y), *y), x)

    def test_exchanged_it_has_the_other_sign(self):
        for x, y in pairs():
            self.assertEqual(self.told(minus, *x, *y), model.negative(self.told(minus, *y, *x)))

    def test_names_and_nothing_kept(self):
        self.check_kept_to(minus, OF_TWO, (1, 2, 3, 4, 8, 7, 6, 4))


class TimesTest(RingTest):
    def test_ordinary_numbers(self):
        self.assertEqual(times(1, 2, 3, 4, 5, 6, 7, 8), [0, -56, -36, 2, 60])
        self.assertEqual(times(1, -2, 3, -4, -5, 6, -7, 8), [0, 56, -36, -2, 60])
        self.assertEqual(times(3, 0, 0, 0, 1, -2, 5, -7), [0, 3, -6, 15, -21])

    def test_powers_of_w(self):
        for i in range(8):
            for j in range(8):
                self.assertEqual(self.told(times, *W[i], *W[j]), W[(i + j) % 8])

    def test_w_times_its_third_power_is_minus_one(self):
        self.assertEqual(times(0, 1, 0, 0, 0, 0, 0, 1), [0, -1, 0, 0, 0])
        self.assertEqual(times(0, 0, 1, 0, 0, 0, 1, 0), [0, -1, 0, 0, 0])

    def test_root_two_times_root_two(self):
        self.assertEqual(times(0, 1, 0, -1, 0, 1, 0, -1), [0, 2, 0, 0, 0])

    def test_one_coordinate_alone(self):
        for i in range(4):
            for j in range(4):
                x = tuple(3 * part for part in W[i])
                y = tuple(-5 * part for part in W[j])
                self.assertEqual(self.told(times, *x, *y), tuple(-15 * part for part in W[i + j]))

    def test_naught_and_one(self):
        self.assertEqual(times(0, 0, 0, 0, 0, 0, 0, 0), [0, 0, 0, 0, 0])
        for x in samples():
            self.assertEqual(self.told(times, *x, *NAUGHT), NAUGHT)
            self.assertEqual(self.told(times, *NAUGHT, *x), NAUGHT)
            self.assertEqual(self.told(times, *x, *W[0]), x)

    def test_largest_coordinates_are_not_cut(self):
        square = MOST * MOST
        self.assertEqual(times(*[MOST] * 8), [0, -2 * square, 0, 2 * square, 4 * square])
        self.assertEqual(times(*[-MOST] * 4, *[MOST] * 4), [0, 2 * square, 0, -2 * square, -4 * square])
        self.assertEqual(times(MOST, 0, 0, 0, -MOST, 0, 0, 0), [0, -square, 0, 0, 0])

    def test_same_with_its_factors_exchanged(self):
        for x, y in pairs():
            self.assertEqual(times(*x, *y), times(*y, *x))

    def test_shares_out_over_sums_and_differences(self):
        for x, y in pairs():
            for z in (ROOT, (3, -4, 5, 7)):
                apart = self.told(times, *x, *z) + self.told(times, *y, *z)
                for call in (plus, minus):
                    self.assertEqual(self.told(times, *self.told(call, *x, *y), *z), self.told(call, *apart))

    def test_against_the_model(self):
        for x, y in pairs():
            self.assertEqual(self.told(times, *x, *y), model.mul(x, y))

    def test_names_and_nothing_kept(self):
        self.check_kept_to(times, OF_TWO, (1, 2, 3, 4, 5, 6, 7, 8))


class TurnedTest(RingTest):
    def test_turns_from_none_to_eight(self):
        for j, told in enumerate((
            [1, 2, 3, 4], [-4, 1, 2, 3], [-3, -4, 1, 2], [-2, -3, -4, 1], [-1, -2, -3, -4], [4, -1, -2, -3],
            [3, 4, -1, -2], [2, 3, 4, -1], [1, 2, 3, 4],
        )):
            self.assertEqual(turned(1, 2, 3, 4, j), [0] + told)

    def test_turns_back(self):
        self.assertEqual(turned(1, 2, 3, 4, -1), [0, 2, 3, 4, -1])
        self.assertEqual(turned(1, 2, 3, 4, -2), [0, 3, 4, -1, -2])
        self.assertEqual(turned(1, 2, 3, 4, -4), [0, -1, -2, -3, -4])
        self.assertEqual(turned(1, 2, 3, 4, -8), [0, 1, 2, 3, 4])

    def test_the_largest_turns(self):
        # 2^64 is a multiple of eight, so these are a turn by -1 and by 1.
        self.assertEqual(turned(1, 2, 3, 4, 18446744073709551615), [0, 2, 3, 4, -1])
        self.assertEqual(turned(1, 2, 3, 4, -18446744073709551615), [0, -4, 1, 2, 3])

    def test_eight_is_none_and_four_changes_the_sign(self):
        for x in samples():
            for j in (-MOST, -8, -1, 0, 3, 7, MOST - 8):
                self.assertEqual(turned(*x, j), turned(*x, j + 8))
                self.assertEqual(self.told(turned, *x, j), model.negative(self.told(turned, *x, j + 4)))

    def test_turns_add_up(self):
        for x in samples():
            for i, j in ((1, 2), (5, 6), (-3, 7), (MOST, -MOST), (MOST, 1), (-MOST, -1), (MOST - 9, 4)):
                self.assertEqual(self.told(turned, *self.told(turned, *x, i), j), self.told(turned, *x, i + j))

    def test_same_as_a_product_with_a_power_of_w(self):
        for x in samples():
            for j in (0, 1, 2, 3, 4, 5, 6, 7, 8, -1, -8, -13, 2 ** 32 + 3, MOST, -MOST):
                self.assertEqual(turned(*x, j), times(*x, *W[j % 8]))
                self.assertEqual(self.told(turned, *x, j), model.mul(x, model.power_of_w(j)))

    def test_largest_coordinates(self):
        self.assertEqual(turned(MOST, -MOST, MOST, -MOST, 1), [0, MOST, MOST, -MOST, MOST])
        self.assertEqual(turned(-MOST, -MOST, MOST, MOST, -1), [0, -MOST, MOST, MOST, MOST])

    def test_naught_stays(self):
        for j in (0, 1, 4, 7, 8, -1, MOST, -MOST):
            self.assertEqual(turned(0, 0, 0, 0, j), [0, 0, 0, 0, 0])

    def test_names_and_nothing_kept(self):
        self.check_kept_to(turned, "x0 x1 x2 x3 j", (1, 2, 3, 4, 3))


if __name__ == "__main__":
    unittest.main()
