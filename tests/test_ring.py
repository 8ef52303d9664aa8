"""Call 1, plus."""

import unittest

from exactqubits.ring import plus

MOST = 2 ** 64 - 1


class PlusTest(unittest.TestCase):
    def test_adds_coordinate_by_coordinate(self):
        self.assertEqual(plus(1, 2, 3, 4, 50, 60, 70, 80), [0, 51, 62, 73, 84])
        self.assertEqual(plus(1, -2, 3, -4, -10, 20, -30, 40), [0, -9, 18, -27, 36])

    def test_naught(self):
        self.assertEqual(plus(0, 0, 0, 0, 0, 0, 0, 0), [0, 0, 0, 0, 0])
        self.assertEqual(plus(5, -6, 7, -8, -5, 6, -7, 8), [0, 0, 0, 0, 0])

    def test_largest_coordinates_are_not_cut(self):
        self.assertEqual(plus(MOST, -MOST, MOST, -MOST, MOST, -MOST, -MOST, 1), [0, 2 * MOST, -2 * MOST, 0, 1 - MOST])

    def test_gives_a_list_of_whole_numbers(self):
        given = plus(1, 0, 0, 0, -1, 0, 0, 1)
        self.assertIs(type(given), list)
        self.assertTrue(all(type(number) is int for number in given))

    def test_names_of_the_arguments(self):
        self.assertEqual(plus(x0=1, x1=2, x2=3, x3=4, y0=5, y1=6, y2=7, y3=8), [0, 6, 8, 10, 12])

    def test_nothing_is_kept(self):
        first = plus(1, 2, 3, 4, 5, 6, 7, 8)
        first.append(9)
        self.assertEqual(plus(1, 2, 3, 4, 5, 6, 7, 8), [0, 6, 8, 10, 12])


if __name__ == "__main__":
    unittest.main()
