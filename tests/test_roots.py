"""Calls 5 bar, 6 raised and 7 lowered."""

import unittest

from exactqubits.ring import bar, lowered, minus, plus, raised, times, turned
from tests import model
from tests.ring_support import MOST, NAUGHT, ROOT, W, RingTest, pairs, samples

COUNTS = (0, 1, 2, 3, 64, 255, 256)


def model_raised(x, k):
    for step in range(k):
        x = model.mul(x, model.ROOT)
    return x


def model_lowered(x, k):
    """Divided by root 2 as quotients, as long as what comes is whole."""
    for step in range(k):
        divided = model.mul(x, model.inverse(model.ROOT))
        if any(part.denominator != 1 for part in divided):
            return x
        x = divided
    return x


class BarTest(RingTest):
    def test_ordinary_numbers(self):
        self.assertEqual(bar(1, 2, 3, 4), [0, 1, -4, -3, -2])
        self.assertEqual(bar(-5, 6, -7, 8), [0, -5, -8, 7, -6])

    def test_powers_of_w(self):
        for j in range(8):
            self.assertEqual(self.told(bar, *W[j]), W[-j % 8])

    def test_real_numbers_stay(self):
        for x in (NAUGHT, ROOT, (7, 0, 0, 0), (-3, 5, 0, -5), (MOST, -MOST, 0, MOST)):
            self.assertEqual(self.told(bar, *x), x)

    def test_largest_coordinates(self):
        self.assertEqual(bar(MOST, MOST, MOST, MOST), [0, MOST, -MOST, -MOST, -MOST])
        self.assertEqual(bar(-MOST, -MOST, -MOST, -MOST), [0, -MOST, MOST, MOST, MOST])
        self.assertEqual(bar(0, 0, 0, MOST), [0, 0, -MOST, 0, 0])

    def test_conjugate_of_the_conjugate_is_the_number(self):
        for x in samples():
            self.assertEqual(self.told(bar, *self.told(bar, *x)), x)

    def test_goes_with_sums_products_and_turns(self):
        for x, y in pairs():
            bars = self.told(bar, *x) + self.told(bar, *y)
            for call in (plus, minus, times):
                self.assertEqual(self.told(bar, *self.told(call, *x, *y)), self.told(call, *bars))
            self.assertEqual(self.told(bar, *self.told(turned, *x, 3)), self.told(turned, *bars[:4], -3))

    def test_times_its_conjugate_a_number_is_real(self):
        for x in samples():
            square = self.told(times, *x, *self.told(bar, *x))
            self.assertEqual((square[2], square[3]), (0, -square[1]))
            self.assertEqual(square[0], sum(part * part for part in x))

    def test_against_the_model(self):
        for x in samples():
            self.assertEqual(self.told(bar, *x), model.conj(x))

    def test_names_and_nothing_kept(self):
        self.check_kept_to(bar, "x0 x1 x2 x3", (1, 2, 3, 4))


class RaisedTest(RingTest):
    def test_ordinary_numbers(self):
        self.assertEqual(raised(1, 2, 3, 5, 0), [0, 1, 2, 3, 5])
        self.assertEqual(raised(1, 2, 3, 5, 1), [0, -3, 4, 7, 2])
        self.assertEqual(raised(1, 2, 3, 5, 2), [0, 2, 4, 6, 10])
        self.assertEqual(raised(1, 2, 3, 5, 3), [0, -6, 8, 14, 4])
        self.assertEqual(raised(-1, 2, -4, -7, 1), [0, 9, -5, -5, -3])

    def test_one_coordinate_alone(self):
        self.assertEqual(raised(1, 0, 0, 0, 1), [0, 0, 1, 0, -1])
        self.assertEqual(raised(0, 1, 0, 0, 1), [0, 1, 0, 1, 0])
        self.assertEqual(raised(0, 0, 1, 0, 1), [0, 0, 1, 0, 1])
        self.assertEqual(raised(0, 0, 0, 1, 1), [0, -1, 0, 1, 0])

    def test_the_most_times(self):
        self.assertEqual(raised(1, 0, 0, 0, 255), [0, 0, 2 ** 127, 0, -2 ** 127])
        self.assertEqual(raised(1, 0, 0, 0, 256), [0, 2 ** 128, 0, 0, 0])
        large = (MOST, -MOST, -MOST, MOST)
        self.assertEqual(raised(*large, 1), [0, -2 * MOST, 0, 0, -2 * MOST])
        self.assertEqual(raised(*large, 255), [0, -2 ** 128 * MOST, 0, 0, -2 ** 128 * MOST])
        self.assertEqual(self.told(raised, *large, 256), tuple(2 ** 128 * part for part in large))

    def test_naught_stays(self):
        for k in COUNTS:
            self.assertEqual(raised(0, 0, 0, 0, k), [0, 0, 0, 0, 0])

    def test_twice_is_doubled(self):
        for x in samples():
            self.assertEqual(self.told(raised, *x, 2), self.told(plus, *x, *x))
            self.assertEqual(self.told(raised, *x, 1), self.told(times, *x, *ROOT))

    def test_against_the_model(self):
        for x in samples()[::7]:
            for k in COUNTS:
                self.assertEqual(self.told(raised, *x, k), model_raised(x, k))

    def test_names_and_nothing_kept(self):
        self.check_kept_to(raised, "x0 x1 x2 x3 k", (1, 2, 3, 4, 5))


class LoweredTest(RingTest):
    def test_none_asked(self):
        for x in samples():
            self.assertEqual(self.told(lowered, *x, 0), x)

    def test_cannot_be_divided_at_all(self):
        for x in W + [(1, 2, 3, 5), (1, 2, 4, 6), (-1, 2, 4, -6), (2, -1, 4, 0), (1, 1, 0, 0), (0, 0, 0, -3),
                      (-1, -2, -3, -5), (MOST, 0, 0, 0), (0, -MOST, 0, 0), (MOST, MOST, MOST, MOST - 1)]:
            for k in COUNTS:
                self.assertEqual(self.told(lowered, *x, k), x)

    def test_fewer_times_just_as_often_and_more_often_than_it_can_be(self):
        steps = [(-12, 16, 28, 8), (4, 8, 12, 20), (-6, 8, 14, 4), (2, 4, 6, 10), (-3, 4, 7, 2), (1, 2, 3, 5)]
        for k in range(9):
            self.assertEqual(self.told(lowered, *steps[0], k), steps[min(k, 5)])
        for k in (255, 256):
            self.assertEqual(self.told(lowered, *steps[0], k), steps[5])

    def test_powers_of_root_two(self):
        self.assertEqual(lowered(2, 0, 0, 0, 1), [0, 0, 1, 0, -1])
        self.assertEqual(lowered(2, 0, 0, 0, 2), [0, 1, 0, 0, 0])
        self.assertEqual(lowered(0, 1, 0, -1, 2), [0, 1, 0, 0, 0])
        self.assertEqual(lowered(2 ** 63, 0, 0, 0, 125), [0, 0, 1, 0, -1])
        self.assertEqual(lowered(2 ** 63, 0, 0, 0, 126), [0, 1, 0, 0, 0])
        self.assertEqual(lowered(0, 2 ** 63, 0, -2 ** 63, 256), [0, 1, 0, 0, 0])
        self.assertEqual(lowered(0, 2 ** 63, 0, -2 ** 63, 126), [0, 0, 1, 0, -1])

    def test_odd_and_even_below_naught(self):
        self.assertEqual(lowered(-1, 0, 1, 0, 1), [0, 0, 0, 0, 1])
        self.assertEqual(lowered(-1, 0, -1, 0, 1), [0, 0, -1, 0, 0])
        self.assertEqual(lowered(-3, -1, 1, -5, 1), [0, 2, -1, -3, 2])
        self.assertEqual(lowered(-3, -2, -5, -4, 1), [0, 1, -4, -3, -1])
        self.assertEqual(lowered(-2, -4, -6, -10, 1), [0, 3, -4, -7, -2])
        self.assertEqual(lowered(-2, -4, -6, -10, 256), [0, -1, -2, -3, -5])
        self.assertEqual(lowered(-1, -2, -2, -4, 256), [0, -1, -2, -2, -4])

    def test_largest_coordinates(self):
        self.assertEqual(lowered(MOST, MOST, MOST, MOST, 1), [0, 0, MOST, MOST, 0])
        self.assertEqual(lowered(MOST, MOST, MOST, MOST, 256), [0, 0, MOST, MOST, 0])
        self.assertEqual(lowered(-MOST, MOST, MOST, -MOST, 1), [0, MOST, 0, 0, MOST])
        self.assertEqual(lowered(-MOST, 0, -MOST, 0, 256), [0, 0, -MOST, 0, 0])

    def test_naught_stays(self):
        for k in COUNTS:
            self.assertEqual(lowered(0, 0, 0, 0, k), [0, 0, 0, 0, 0])

    def test_undoes_raised(self):
        for x in samples():
            for k in COUNTS:
                self.assertEqual(self.told(lowered, *self.told(raised, *x, k), k), x)

    def test_what_is_left_is_divided_or_cannot_be(self):
        for x in samples():
            least = self.told(lowered, *x, 256)
            self.assertEqual(self.told(lowered, *least, 1), least)
            self.assertIn(x, [self.told(raised, *least, k) for k in range(128)])

    def test_against_the_model(self):
        for x in samples():
            for k in (1, 2, 3, 256):
                self.assertEqual(self.told(lowered, *x, k), model_lowered(x, min(k, 128)))

    def test_names_and_nothing_kept(self):
        self.check_kept_to(lowered, "x0 x1 x2 x3 k", (2, 4, 6, 10, 1))


if __name__ == "__main__":
    unittest.main()
