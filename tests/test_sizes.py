"""Calls 8 depth, 9 size and 10 sign."""

import math
import random
import unittest

from exactqubits.ring import bar, depth, lowered, raised, sign, size, times, turned
from tests import model
from tests.ring_support import MOST, NAUGHT, ROOT, W, RingTest, pairs, samples

HALF = 9223372036854775808


def norm_depth(x):
    """How often the norm can be halved, divided by 2: the norm of root 2 is 4, and no other prime divides 2."""
    norm = x
    for j in (3, 5, 7):
        norm = model.mul(norm, model.put_in(x, j))
    whole = abs(int(norm[0]))
    return ((whole & -whole).bit_length() - 1) // 2


def root_sign(u, v):
    """Told by whole parts: u is held against the whole part of v root 2, which no whole number but 0 meets."""
    if v == 0:
        return (u > 0) - (u < 0)
    whole = math.isqrt(2 * v * v)
    if v > 0:
        return 1 if u >= -whole else -1
    return 1 if u > whole else -1


def nearest():
    """Pairs of whole numbers p, q within the edges with p and q root 2 as near as can be: p^2 - 2 q^2 is 1 or -1."""
    near = [(1, 0), (1, 1)]
    while near[-1][0] + 2 * near[-1][1] <= MOST:
        p, q = near[-1]
        near.append((p + 2 * q, p + q))
    return near


def reals():
    """u, v of all sorts."""
    edges = (0, 1, -1, 2, -2, HALF, -HALF, MOST - 1, 1 - MOST, MOST, -MOST)
    found = [(u, v) for u in edges for v in edges]
    found += [(u, v) for u in range(-12, 13) for v in range(-9, 10)]
    for p, q in nearest():
        found += [(u, v) for u in (p - 1, p, p + 1) for v in (-q - 1, -q, 1 - q) if max(u, -v) <= MOST]
    chance = random.Random(63)
    for bits in (4, 16, 40, 64):
        for turn in range(50):
            most = 2 ** bits - 1
            found.append((chance.randint(-most, most), chance.randint(-most, most)))
    return found


class DepthTest(RingTest):
    def depth(self, x):
        return self.told(depth, *x, many=1)[0]

    def test_naught_is_refused(self):
        answer = depth(0, 0, 0, 0)
        self.assertIs(type(answer), list)
        self.assertEqual(answer, [-4])

    def test_numbers_that_cannot_be_divided(self):
        for x in W + [(1, 2, 3, 5), (3, 0, 0, 0), (-2, -1, 4, 0), (1, 1, 0, 0), (0, 0, 0, -3), (0, 1, 1, 0),
                      (1, 0, 0, 1), (MOST, 0, 0, 0), (0, -MOST, 0, 0), (MOST, MOST, MOST, MOST - 1), (2, 1, 0, 0)]:
            self.assertEqual(depth(*x), [0, 0])

    def test_numbers_that_can_be_divided_once(self):
        for x in (ROOT, (1, 0, 1, 0), (1, 0, -1, 0), (0, -1, 0, 1), (1, 1, 1, 1), (1, 2, 3, 4), (-3, -1, 1, -5),
                  (5, 0, -7, 0), (0, 5, 0, 5), (MOST, MOST, MOST, MOST), (-MOST, MOST, MOST, -MOST), (-MOST, 0, -MOST, 0)):
            self.assertEqual(depth(*x), [0, 1])

    def test_numbers_that_can_be_divided_more_often(self):
        self.assertEqual(depth(2, 0, 0, 0), [0, 2])
        self.assertEqual(depth(0, 0, -6, 0), [0, 2])
        self.assertEqual(depth(2, 4, 6, 10), [0, 2])
        self.assertEqual(depth(-6, 8, 14, 4), [0, 3])
        self.assertEqual(depth(2, 2, 2, 2), [0, 3])
        self.assertEqual(depth(-12, 16, 28, 8), [0, 5])

    def test_numbers_that_can_be_divided_very_often(self):
        for place in range(4):
            for part in (HALF, -HALF):
                self.assertEqual(depth(*[part if i == place else 0 for i in range(4)]), [0, 126])
        self.assertEqual(depth(HALF, HALF, HALF, HALF), [0, 127])
        self.assertEqual(depth(-HALF, HALF, -HALF, -HALF), [0, 127])
        self.assertEqual(depth(0, HALF, 0, -HALF), [0, 127])
        self.assertEqual(depth(HALF, 0, HALF, 0), [0, 127])
        self.assertEqual(depth(HALF, HALF, 0, 0), [0, 126])
        self.assertEqual(depth(HALF, 0, 0, HALF // 2), [0, 124])
        self.assertEqual(depth(HALF, 1, 0, 0), [0, 0])
        self.assertEqual(depth(HALF, 1, 0, -1), [0, 1])
        self.assertEqual(depth(MOST - 1, 0, 0, 0), [0, 2])

    def test_each_power_of_root_two(self):
        for k in range(128):
            self.assertEqual(self.depth(self.told(raised, 1, 0, 0, 0, k)), k)
            self.assertEqual(self.depth(self.told(raised, 1, 2, 3, 5, k)), k)

    def test_raised_it_grows_by_as_much(self):
        for x in samples():
            if x != NAUGHT:
                for k in (0, 1, 2, 3, 64, 256):
                    self.assertEqual(self.depth(self.told(raised, *x, k)), self.depth(x) + k)

    def test_goes_with_lowered(self):
        for x in samples():
            if x != NAUGHT:
                often = self.depth(x)
                least = self.told(lowered, *x, often)
                self.assertEqual(self.told(raised, *least, often), x)
                self.assertEqual(self.told(lowered, *least, 256), least)

    def test_stays_with_turns_and_conjugates(self):
        for x in samples():
            if x != NAUGHT:
                for j in range(8):
                    self.assertEqual(self.depth(self.told(turned, *x, j)), self.depth(x))
                self.assertEqual(self.depth(self.told(bar, *x)), self.depth(x))

    def test_against_the_norm(self):
        for x in samples():
            if x != NAUGHT:
                self.assertEqual(self.depth(x), norm_depth(x))

    def test_names_and_nothing_kept(self):
        self.check_kept_to(depth, "x0 x1 x2 x3", (2, 4, 6, 10))


class SizeTest(RingTest):
    def size(self, x):
        return self.told(size, *x, many=2)

    def test_ordinary_numbers(self):
        self.assertEqual(size(1, 2, 3, 4), [0, 30, 16])
        self.assertEqual(size(1, 1, 0, 0), [0, 2, 1])
        self.assertEqual(size(1, 0, 0, 1), [0, 2, -1])
        self.assertEqual(size(1, 0, 1, 0), [0, 2, 0])
        self.assertEqual(size(-5, 6, -7, 8), [0, 174, -88])

    def test_naught_and_powers_of_w(self):
        self.assertEqual(size(0, 0, 0, 0), [0, 0, 0])
        for x in W:
            self.assertEqual(size(*x), [0, 1, 0])

    def test_real_numbers_are_squared(self):
        self.assertEqual(size(-7, 0, 0, 0), [0, 49, 0])
        self.assertEqual(size(*ROOT), [0, 2, 0])
        # 3 + 5 root 2, and 3 - 5 root 2.
        self.assertEqual(size(3, 5, 0, -5), [0, 59, 30])
        self.assertEqual(size(3, -5, 0, 5), [0, 59, -30])

    def test_each_pair_of_coordinates(self):
        for first, second, v in ((0, 1, 1), (1, 2, 1), (2, 3, 1), (0, 3, -1), (0, 2, 0), (1, 3, 0)):
            x = [0, 0, 0, 0]
            x[first] = 7
            x[second] = -3
            self.assertEqual(size(*x), [0, 58, -21 * v])

    def test_largest_coordinates(self):
        square = MOST * MOST
        self.assertEqual(size(MOST, 0, 0, 0), [0, square, 0])
        self.assertEqual(size(0, 0, 0, -MOST), [0, square, 0])
        self.assertEqual(size(MOST, MOST, MOST, MOST), [0, 4 * square, 2 * square])
        self.assertEqual(size(-MOST, -MOST, -MOST, -MOST), [0, 4 * square, 2 * square])
        self.assertEqual(size(MOST, MOST, MOST, -MOST), [0, 4 * square, 2 * square])
        self.assertEqual(size(MOST, -MOST, MOST, MOST), [0, 4 * square, -2 * square])
        self.assertEqual(size(MOST, MOST - 1, 0, 0), [0, square + (MOST - 1) * (MOST - 1), MOST * (MOST - 1)])

    def test_it_is_the_number_times_its_conjugate(self):
        for x in samples():
            u, v = self.size(x)
            self.assertEqual(self.told(times, *x, *self.told(bar, *x)), (u, v, 0, -v))

    def test_against_the_model(self):
        for x in samples():
            self.assertEqual(list(self.size(x)), model.real(model.mul(x, model.conj(x))))

    def test_of_a_product_it_is_the_product_of_both(self):
        for x, y in pairs():
            p, q = self.size(x)
            u, v = self.size(y)
            self.assertEqual(self.size(self.told(times, *x, *y)), (p * u + 2 * q * v, p * v + q * u))

    def test_stays_with_turns_and_conjugates_and_doubles_when_raised(self):
        for x in samples():
            u, v = self.size(x)
            for j in range(8):
                self.assertEqual(self.size(self.told(turned, *x, j)), (u, v))
            self.assertEqual(self.size(self.told(bar, *x)), (u, v))
            self.assertEqual(self.size(self.told(raised, *x, 1)), (2 * u, 2 * v))

    def test_only_naught_has_none(self):
        for x in samples():
            self.assertEqual(self.told(sign, *self.size(x), many=1), (0 if x == NAUGHT else 1,))

    def test_names_and_nothing_kept(self):
        self.check_kept_to(size, "x0 x1 x2 x3", (1, 2, 3, 4))


class SignTest(RingTest):
    def check_signs(self, wanted, told):
        for u, v in told:
            self.assertEqual(self.told(sign, u, v, many=1), (wanted,), (u, v))

    def test_naught(self):
        self.check_signs(0, [(0, 0)])

    def test_one_alone(self):
        self.check_signs(1, [(1, 0), (0, 1), (MOST, 0), (0, MOST)])
        self.check_signs(-1, [(-1, 0), (0, -1), (-MOST, 0), (0, -MOST)])

    def test_both_of_one_sign(self):
        self.check_signs(1, [(1, 1), (3, 200), (MOST, 1), (1, MOST), (MOST, MOST)])
        self.check_signs(-1, [(-1, -1), (-3, -200), (-MOST, -1), (-1, -MOST), (-MOST, -MOST)])

    def test_one_of_the_other_sign(self):
        self.check_signs(1, [(2, -1), (-1, 1), (-2, 2), (100, -70), (-140, 100), (MOST, -1), (-1, MOST), (-MOST, MOST)])
        self.check_signs(-1, [(-2, 1), (1, -1), (2, -2), (-100, 70), (140, -100), (-MOST, 1), (1, -MOST), (MOST, -MOST)])

    def test_hardly_above_or_below(self):
        self.check_signs(-1, [(7, -5), (41, -29), (-3, 2), (-17, 12), (-99, 70)])
        self.check_signs(1, [(-7, 5), (-41, 29), (3, -2), (17, -12), (99, -70)])

    def test_hardly_above_or_below_up_to_the_edges(self):
        near = nearest()
        self.assertGreater(near[-1][0], 2 ** 62)
        self.assertIn((17, 12), near)
        for p, q in near:
            above = p * p - 2 * q * q
            self.assertIn(above, (1, -1))
            self.check_signs(above, [(p, -q)])
            self.check_signs(-above, [(-p, q)])

    def test_the_largest_beside_the_nearest(self):
        # The whole part of 18446744073709551615 / root 2 is 13043817825332782211.
        q = 13043817825332782211
        self.assertEqual(math.isqrt(MOST * MOST // 2), q)
        self.check_signs(1, [(MOST, -q), (-MOST, q + 1)])
        self.check_signs(-1, [(MOST, -q - 1), (-MOST, q)])

    def test_with_both_signs_changed_it_is_the_other_one(self):
        for u, v in reals():
            self.assertEqual(self.told(sign, -u, -v, many=1)[0], -self.told(sign, u, v, many=1)[0])

    def test_of_a_product_it_is_the_product_of_both(self):
        few = reals()[::7]
        for p, q in few:
            for u, v in few[::3]:
                both = self.told(sign, p, q, many=1)[0] * self.told(sign, u, v, many=1)[0]
                self.check_signs(both, [(p * u + 2 * q * v, p * v + q * u)])

    def test_against_whole_parts(self):
        for u, v in reals():
            self.check_signs(root_sign(u, v), [(u, v)])

    def test_names_and_nothing_kept(self):
        self.check_kept_to(sign, "u v", (7, -5))


if __name__ == "__main__":
    unittest.main()
